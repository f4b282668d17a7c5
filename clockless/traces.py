"""Traces: lists of edges."""


def trace_of(spec, sequence):
    """The edges of a list of transitions."""
    return [spec.edges[transition] for transition in sequence]


def follow(graph, trace):
    """The states that firing sequences with this trace lead to."""
    states = [0]
    for edge in trace:
        states = sorted({after for state in states for after in graph.after(state, edge)})
    return states


def view(trace, *, signals):
    """The trace without the edges of other signals."""
    return [(signal, value) for signal, value in trace if signal in signals]
