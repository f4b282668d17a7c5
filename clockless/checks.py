"""Checking whether a circuit can follow a state graph."""

from clockless.errors import CodeConflict, NotPersistent, Nondeterministic


def nondeterminism(graph):
    """The smallest state and transitions that show it, or None."""
    edges = graph.spec.edges
    for state in range(len(graph)):
        arcs = graph.arcs(state)
        for first, target in arcs:
            for second, other in arcs:
                if first < second and edges[first] == edges[second] and target != other:
                    return (state, first, second)
    return None


def disabling(graph):
    """The smallest state and there the disabled and the disabling transition, or None."""
    edges_of = [graph.edges(state) for state in range(len(graph))]
    for state in range(len(graph)):
        arcs = graph.arcs(state)
        for disabled, _ in arcs:
            for by, target in arcs:
                if _must_wait(graph.spec, disabled, by) and graph.spec.edges[disabled] not in edges_of[target]:
                    return (state, disabled, by)
    return None


def driven_excited(graph, state):
    """The driven signals that are excited at the state."""
    changing = [signal for signal, _ in graph.edges(state)]
    return tuple([signal for signal in graph.spec.driven if signal in changing])


def conflicts(graph):
    """The pairs of states that have the same code but excite different driven signals."""
    excited = [driven_excited(graph, state) for state in range(len(graph))]
    alike = {}
    for state in range(len(graph)):
        alike.setdefault(graph.code(state), []).append(state)
    pairs = []
    for first in range(len(graph)):
        for second in alike[graph.code(first)]:
            if first < second and excited[first] != excited[second]:
                pairs.append((first, second))
    return pairs


def is_implementable(graph):
    """Whether the graph is deterministic, persistent and coded."""
    return nondeterminism(graph) is None and disabling(graph) is None and conflicts(graph) == []


def check(graph, *, coded=True):
    """Raise an error for the first fault of the graph."""
    fault = nondeterminism(graph)
    if fault is not None:
        state, first, second = fault
        raise Nondeterministic(graph.path(state), first, second)
    fault = disabling(graph)
    if fault is not None:
        state, disabled, by = fault
        raise NotPersistent(graph.path(state), disabled, by)
    pairs = conflicts(graph) if coded else []
    if pairs:
        one, other = pairs[0]
        raise CodeConflict(graph.path(one), graph.path(other))


def _must_wait(spec, first, second):
    """Whether the edge of the first must outlast the second one's firing."""
    one, other = spec.edges[first], spec.edges[second]
    return one != other and not (spec.is_input(one[0]) and spec.is_input(other[0]))
