"""Gates: their rules and their values."""

from clockless.covers import cover_contains
from clockless.cubes import contains
from clockless.orders import is_ascending

MOST_WIRES = 4000


def suits_wire(gate, wire, signals, wire_count):
    """Whether the gate, or None, may drive this one of so many wires."""
    if wire >= len(signals):
        return gate is not None and _drives_inner_wire(gate, wire, len(signals))
    if signals[wire][1] == "input":
        return gate is None
    return gate is not None and _drives_signal(gate, len(signals), wire_count)


def gate_value_of(gate, values, code, present):
    """The value of a gate, where its own wire has the present value."""
    kind = gate[0]
    if kind == "and":
        return _bit(contains(gate[1], code))
    if kind == "or":
        return _bit(any([values[wire] == "1" for wire in gate[1]]))
    if kind == "all":
        return _bit(all([values[wire] == "1" for wire in gate[1]]))
    if kind == "atomic":
        return _bit(cover_contains(gate[1], code))
    if kind == "c":
        return _kept(values[gate[1]] == "1", values[gate[2]] == "1", present)
    return _kept(cover_contains(gate[1], code), cover_contains(gate[2], code), present)


def wires_of(gate):
    """The wires that the gate, or None, reads by their numbers."""
    if gate is None or gate[0] in ("and", "atomic", "latch"):
        return ()
    return gate[1:] if gate[0] == "c" else gate[1]


def _drives_inner_wire(gate, wire, signal_count):
    """Whether the gate may drive the inner wire."""
    kind = gate[0]
    if kind == "and":
        return _are_cubes((gate[1],), signal_count)
    return kind in ("or", "all") and _are_inner_wires(gate[1], signal_count, wire) and is_ascending(gate[1])


def _drives_signal(gate, signal_count, wire_count):
    """Whether the gate may drive the wire of a signal."""
    kind = gate[0]
    if kind == "c":
        return gate[1] != gate[2] and _are_inner_wires(gate[1:], signal_count, wire_count)
    if kind == "latch":
        return _are_cubes(gate[1], signal_count) and _are_cubes(gate[2], signal_count)
    return kind == "atomic" and _are_cubes(gate[1], signal_count)


def _are_cubes(cubes, width):
    """Whether the texts are cubes of this width."""
    return all([len(cube) == width and cube.strip("01-") == "" for cube in cubes])


def _are_inner_wires(wires, signal_count, below):
    """Whether all of the wires are inner wires below the given one."""
    return all([signal_count <= wire < below for wire in wires])


def _bit(holds):
    """The value that tells whether something holds."""
    return "1" if holds else "0"


def _kept(sets, resets, present):
    """The value after setting or resetting; the present one if neither or both are asked for."""
    return present if sets == resets else _bit(sets)
