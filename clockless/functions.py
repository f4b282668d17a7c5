"""The partly given functions that a coded graph shows for its driven signals."""

from clockless.regions import phase


def next_function(graph, signal):
    """The codes that lead to the value 1, and those that lead to 0."""
    return (_codes_in(graph, signal, ("rising", "high")), _codes_in(graph, signal, ("low", "falling")))


def set_function(graph, signal):
    """The codes with which the signal must rise, and those with which it must not."""
    return (_codes_in(graph, signal, ("rising",)), _codes_in(graph, signal, ("low", "falling")))


def reset_function(graph, signal):
    """The codes with which the signal must fall, and those with which it must not."""
    return (_codes_in(graph, signal, ("falling",)), _codes_in(graph, signal, ("high", "rising")))


def _codes_in(graph, signal, phases):
    """The codes of the states in which the signal is in one of the phases, ascending."""
    return sorted({graph.code(state) for state in range(len(graph)) if phase(graph, state, signal) in phases})
