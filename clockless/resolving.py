"""Resolving conflicts of codes by state signals."""

from clockless.checks import check, conflicts
from clockless.errors import CodeConflict, Refusal
from clockless.graphs import explore
from clockless.inserts import candidates, has_room, insert, new_name


def weigh(spec, candidate, *, limit=1000):
    """The number of conflicts with the candidate's signal, or None if it is not good."""
    if not has_room(spec):
        return None
    try:
        graph = explore(_with_signal(spec, candidate), limit=limit)
        check(graph, coded=False)
    except Refusal:
        return None
    return len(conflicts(graph))


def best_candidate(spec, *, limit=1000):
    """The smallest weight of a good candidate and the first one that has it, or None."""
    best = None
    for candidate in candidates(spec):
        found = weigh(spec, candidate, limit=limit)
        if found is not None and (best is None or found < best[0]):
            best = (found, candidate)
        if found == 0:
            # No later candidate is better.
            return best
    return best


def resolve(spec, *, rounds=2, limit=1000):
    """The specification with state signals that tell all of its states apart."""
    graph = explore(spec, limit=limit)
    pairs = conflicts(graph)
    left = len(pairs)
    present = spec
    for _ in range(rounds):
        best = best_candidate(present, limit=limit) if left > 0 else None
        if best is None or best[0] >= left:
            break
        left, candidate = best
        present = _with_signal(present, candidate)
    if left > 0:
        first, second = pairs[0]
        raise CodeConflict(graph.path(first), graph.path(second))
    return present


def _with_signal(spec, candidate):
    """The specification with the candidate's signal inserted."""
    rise, fall, value = candidate
    return insert(spec, new_name(spec), rise=rise, fall=fall, value=value)
