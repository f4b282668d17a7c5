"""Building netlists from implementable state graphs."""

from clockless.covers import compact_cover
from clockless.functions import next_function, reset_function, set_function
from clockless.monotone import monotonous_cover
from clockless.netlists import Netlist


def build(graph, *, style="split"):
    """The netlist of a graph in one of the three styles."""
    spec = graph.spec
    gates = [None for _ in spec.signals]
    for signal in spec.driven:
        rising = monotonous_cover(graph, (signal, 1)) if style == "split" else None
        falling = monotonous_cover(graph, (signal, 0)) if style == "split" else None
        if style == "latch":
            gates[signal] = _latch_gate(graph, signal)
        elif rising is None or falling is None:
            gates[signal] = _atomic_gate(graph, signal)
        else:
            gates.extend(_detecting_gates(rising, len(gates)))
            sets = len(gates) - 1
            gates.extend(_detecting_gates(falling, len(gates)))
            gates[signal] = ("c", sets, len(gates) - 1)
    return Netlist(spec.signals, spec.start, gates)


def _atomic_gate(graph, signal):
    """The gate that computes the next value at once."""
    on, off = next_function(graph, signal)
    return ("atomic", tuple(compact_cover(on, off)))


def _latch_gate(graph, signal):
    """The gate that keeps its value unless the signal must change."""
    set_on, set_off = set_function(graph, signal)
    reset_on, reset_off = reset_function(graph, signal)
    return ("latch", tuple(compact_cover(set_on, set_off)), tuple(compact_cover(reset_on, reset_off)))


def _detecting_gates(cover, first):
    """The gates of inner wires from the first one on; the last one tells whether a cube has the value 1."""
    cubes = [("and", cube) for cube in cover]
    return [*cubes, ("or", tuple(range(first, first + len(cubes))))]
