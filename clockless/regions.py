"""Phases of signals, and the regions of edges."""


def phase(graph, state, signal):
    """What the signal does in the state: it is rising, high, falling or low."""
    edges = graph.edges(state)
    if (signal, 1) in edges:
        return "rising"
    if (signal, 0) in edges:
        return "falling"
    return "high" if graph.code(state)[signal] == "1" else "low"


def regions(graph, edge):
    """The sets of linked states that have the edge, by their smallest states."""
    excited = {state: True for state in range(len(graph)) if edge in graph.edges(state)}
    found = []
    seen = {}
    for state in excited:
        if state not in seen:
            region = _region_of(graph, excited, state)
            found.append(region)
            seen.update({member: True for member in region})
    return found


def _region_of(graph, excited, state):
    """The excited states that chains of links join to the state, ascending."""
    seen = {state: True}
    waiting = [state]
    while waiting:
        member = waiting.pop()
        for other in _neighbours(graph, member):
            if other in excited and other not in seen:
                seen[other] = True
                waiting.append(other)
    return sorted(seen)


def _neighbours(graph, state):
    """The states to which and from which an arc leads."""
    return [target for _, target in graph.arcs(state)] + [source for source, _ in graph.arcs_into(state)]
