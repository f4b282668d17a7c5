"""Netlists whose gates have few inputs."""

from clockless.boards import Board
from clockless.cubes import literal_count
from clockless.errors import InvalidNetlist
from clockless.examining import examine
from clockless.gates import MOST_WIRES, wires_of
from clockless.netlists import Netlist


def fan_in(gate):
    """The number of inputs of an "and", "or" or "all" gate."""
    return literal_count(gate[1]) if gate[0] == "and" else len(gate[1])


def widest(netlist):
    """The largest fan-in of the gates of inner wires."""
    return max([fan_in(gate) for gate in netlist.gates[netlist.signal_count:]], default=0)


def reduced(netlist, *, width):
    """The netlist in which no gate of an inner wire has more inputs than the width."""
    count = netlist.signal_count
    reduction = Reduction(netlist, width)
    for wire in range(count, len(netlist)):
        reduction.replace_wire(wire)
    gates = [_moved(gate, reduction.places) for gate in netlist.gates[:count]]
    return Netlist(netlist.signals, netlist.start, gates + reduction.gates)


def bounded(spec, netlist, *, width, limit=10000):
    """The reduced netlist, if it has no flaw beside the specification."""
    small = reduced(netlist, width=width)
    examine(Board(spec, small), limit=limit)
    return small


def _moved(gate, places):
    """The gate of a signal with the wires that took the places of its wires."""
    return ("c", *[places[wire] for wire in wires_of(gate)]) if wires_of(gate) else gate


def _groups(items, width):
    """The items, divided from the left into groups of as many as the width."""
    return [items[first:first + width] for first in range(0, len(items), width)]


def _cube_of(cube, indexes):
    """The cube with its literals at these indexes only."""
    return "".join([character if index in indexes else "-" for index, character in enumerate(cube)])


class Reduction:
    """The inner wires that have been made so far, and whose places they took."""

    def __init__(self, netlist, width):
        self.netlist = netlist
        self.width = width
        self.gates = []
        self.places = {}

    def replace_wire(self, wire):
        """Make the wires that replace an inner wire, behind those that its gate reads."""
        kind, inputs = self.netlist.gates[wire]
        if kind != "and":
            self.places[wire] = self._make_tree(kind, [self.places[one] for one in inputs])
            return
        literals = [index for index, character in enumerate(inputs) if character != "-"]
        if len(literals) <= self.width:
            self.places[wire] = self._make_wire(("and", inputs))
        else:
            parts = [_cube_of(inputs, group) for group in _groups(literals, self.width)]
            self.places[wire] = self._make_tree("all", [self._make_wire(("and", part)) for part in parts])

    def _make_tree(self, kind, wires):
        """Make gates of this kind until one wire stands for all of the wires; that wire."""
        left = wires
        while len(left) > self.width:
            left = [self._make_gate(kind, group) if len(group) > 1 else group[0]
                    for group in _groups(left, self.width)]
        return self._make_gate(kind, left)

    def _make_gate(self, kind, wires):
        return self._make_wire((kind, tuple(sorted(wires))))

    def _make_wire(self, gate):
        """Make an inner wire with this gate; its number."""
        wire = self.netlist.signal_count + len(self.gates)
        if wire >= MOST_WIRES:
            raise InvalidNetlist("too many wires")
        self.gates.append(gate)
        return wire
