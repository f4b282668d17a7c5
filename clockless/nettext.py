"""The written form of netlists."""

from clockless.drafts import SignalsDraft, take_lines
from clockless.errors import InvalidText
from clockless.gates import MOST_WIRES, suits_wire
from clockless.netlists import Netlist
from clockless.words import number_words, read_ascending, read_numbers, signal_line


def format_netlist(netlist):
    """The text of a netlist."""
    lines = [signal_line(signal, value) for signal, value in zip(netlist.signals, netlist.start)]
    for wire, gate in enumerate(netlist.gates):
        if gate is not None:
            lines.append(" ".join(["gate", str(wire), *_gate_words(gate)]))
    return "\n".join(lines)


def parse_netlist(text):
    """The netlist with this text."""
    draft = NetlistDraft()
    lines = [] if text == "" else text.split("\n")
    take_lines(draft, lines)
    netlist = draft.finished()
    if netlist is None:
        raise InvalidText(len(lines) + 1)
    return netlist


def _gate_words(gate):
    """The words of a gate behind the number of its wire."""
    kind = gate[0]
    if kind == "and":
        return [kind, gate[1]]
    if kind in ("or", "all"):
        return [kind, *number_words(gate[1])]
    if kind == "c":
        return [kind, *number_words(gate[1:])]
    if kind == "atomic":
        return [kind, *gate[1]]
    return [kind, *gate[1], "to", *gate[2]]


def _read_gate(words):
    """The gate that the words write, whether it suits its wire or not; None if they write none."""
    kind, *rest = words
    if kind == "and":
        return (kind, rest[0]) if len(rest) == 1 else None
    if kind in ("or", "all"):
        wires = read_ascending(rest, MOST_WIRES)
        return None if wires is None else (kind, wires)
    if kind == "c":
        wires = read_numbers(rest, MOST_WIRES)
        return (kind, *wires) if wires is not None and len(wires) == 2 else None
    if kind == "atomic":
        return (kind, tuple(rest))
    if kind == "latch" and "to" in rest:
        middle = rest.index("to")
        return (kind, tuple(rest[:middle]), tuple(rest[middle + 1:]))
    return None


class NetlistDraft(SignalsDraft):
    """What the lines that were read so far say of a netlist."""

    def __init__(self):
        super().__init__()
        self.gates = []
        self.gates_begun = False

    def take(self, words):
        """Take in the words of the next line; False if the line is wrong."""
        if words[0] == "gate":
            return self._take_gate(words)
        return not self.gates_begun and self.take_signal(words)

    def finished(self):
        """The netlist that the lines describe, or None if a gate or a wire is missing."""
        self._skip_inputs()
        named = [wire for gate in self.gates if gate is not None and gate[0] == "c" for wire in gate[1:]]
        if len(self.gates) < len(self.signals) or any([wire >= len(self.gates) for wire in named]):
            return None
        return Netlist(self.signals, self.start, self.gates)

    def _take_gate(self, words):
        self.gates_begun = True
        self._skip_inputs()
        wire = len(self.gates)
        if self.signals == [] or wire >= MOST_WIRES or len(words) < 3 or words[1] != str(wire):
            return False
        gate = _read_gate(words[2:])
        if not suits_wire(gate, wire, self.signals, MOST_WIRES):
            return False
        self.gates.append(gate)
        return True

    def _skip_inputs(self):
        """Leave the wires of inputs without a gate, up to the next wire that has one."""
        while len(self.gates) < len(self.signals) and self.signals[len(self.gates)][1] == "input":
            self.gates.append(None)
