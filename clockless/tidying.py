"""Tidying netlists: gates that only delay a wire, and wires that nothing needs, are left out."""

from clockless.gates import wires_of
from clockless.netlists import Netlist


def source(netlist, wire):
    """The wire that the inner wire, perhaps through gates of one wire, only repeats."""
    gate = netlist.gates[wire]
    while gate[0] == "or" and len(gate[1]) == 1:
        wire = gate[1][0]
        gate = netlist.gates[wire]
    return wire


def needed(netlist):
    """The inner wires that some signal depends on."""
    marked = {wire: True for gate in netlist.gates[:netlist.signal_count] for wire in wires_of(gate)}
    # The gate of an inner wire reads smaller wires only, so those above are marked already.
    for wire in range(len(netlist) - 1, netlist.signal_count - 1, -1):
        if wire in marked:
            for read in wires_of(netlist.gates[wire]):
                marked[read] = True
    return sorted(marked)


def tidied(netlist):
    """The netlist with sources instead of what repeats them, and without wires that are not needed."""
    count = netlist.signal_count
    sources = {wire: source(netlist, wire) for wire in range(count, len(netlist))}
    joined = Netlist(netlist.signals, netlist.start, [_with_sources(gate, sources) for gate in netlist.gates])
    kept = needed(joined)
    numbers = {wire: count + index for index, wire in enumerate(kept)}
    gates = [_renumbered(joined.gates[wire], numbers) for wire in list(range(count)) + kept]
    return Netlist(netlist.signals, netlist.start, gates)


def _with_sources(gate, sources):
    """The gate with the sources of its wires, where it is not a gate that only repeats one."""
    wires = wires_of(gate)
    if wires == () or (gate[0] == "or" and len(wires) == 1):
        return gate
    if gate[0] != "c":
        return (gate[0], tuple(sorted({sources[wire] for wire in wires})))
    sets, resets = [sources[wire] for wire in wires]
    # The two wires of a gate must differ.
    return gate if sets == resets else ("c", sets, resets)


def _renumbered(gate, numbers):
    """The gate with the new numbers of its wires."""
    wires = tuple([numbers[wire] for wire in wires_of(gate)])
    if wires == ():
        return gate
    return (gate[0], *wires) if gate[0] == "c" else (gate[0], wires)
