"""Netlists: wires and the gates that drive them."""

from clockless.cubes import with_character
from clockless.errors import InvalidNetlist
from clockless.gates import MOST_WIRES, gate_value_of, suits_wire
from clockless.signals import are_signals, is_code


class Netlist:
    """The wires of signals and inner wires, with their gates and start values."""

    def __init__(self, signals, start, gates):
        if not are_signals(signals):
            raise InvalidNetlist("wrong signals")
        if not is_code(start, len(signals)):
            raise InvalidNetlist("a wrong start code")
        if not _is_wire_count(len(gates), len(signals)):
            raise InvalidNetlist("wrong number of wires")
        for wire, gate in enumerate(gates):
            if not suits_wire(gate, wire, signals, len(gates)):
                raise InvalidNetlist(f"a wrong gate for wire {wire}")
        self.signals = tuple([(name, kind) for name, kind in signals])
        self.start = start
        self.gates = tuple(gates)
        self._initial = self._settled()

    def __len__(self):
        return len(self.gates)

    def __eq__(self, other):
        return (isinstance(other, Netlist)
                and self.signals == other.signals
                and self.start == other.start
                and self.gates == other.gates)

    @property
    def signal_count(self):
        """The number of the wires that belong to signals."""
        return len(self.signals)

    @property
    def initial(self):
        """The values of all wires at the beginning."""
        return self._initial

    def gate_value(self, values, wire):
        """The value of the gate of the wire."""
        return gate_value_of(self.gates[wire], values, values[:len(self.signals)], values[wire])

    def is_excited(self, values, wire):
        """Whether the wire has a gate with another value."""
        return self.gates[wire] is not None and self.gate_value(values, wire) != values[wire]

    def excited(self, values):
        """The wires whose gates are excited."""
        return [wire for wire in range(len(self.gates)) if self.is_excited(values, wire)]

    def flipped(self, values, wire):
        """The values after the wire has changed."""
        return with_character(values, wire, "0" if values[wire] == "1" else "1")

    def _settled(self):
        """The start code and the values that the gates of inner wires have with it."""
        values = self.start + "0" * (len(self.gates) - len(self.signals))
        for wire in range(len(self.signals), len(self.gates)):
            # The gates of inner wires read only signals and wires with smaller numbers.
            values = with_character(values, wire, self.gate_value(values, wire))
        return values


def _is_wire_count(wire_count, signal_count):
    """Whether a netlist with so many signals may have so many wires."""
    if signal_count == 0:
        return wire_count == 0
    return signal_count <= wire_count <= MOST_WIRES
