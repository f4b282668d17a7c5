"""Boards: a netlist beside the specification of its environment."""

from clockless.cubes import with_character
from clockless.errors import InvalidBoard, InvalidMove


class Board:
    """A specification that plays the environment of a netlist."""

    def __init__(self, spec, netlist):
        if not _suits(spec, netlist):
            raise InvalidBoard("the signals of the netlist do not suit the specification")
        self.spec = spec
        self.netlist = netlist

    @property
    def initial(self):
        """The initial marking and the initial values."""
        return (self.spec.net.marked, self.netlist.initial)

    def moves(self, state):
        """The moves of the environment and then those of the netlist."""
        marking, values = state
        enabled = self.spec.net.enabled(marking)
        inputs = [("input", transition) for transition in enabled if self._is_input_transition(transition)]
        return inputs + [("gate", wire) for wire in self.netlist.excited(values)]

    def after(self, state, move):
        """The state after one of the moves of the state."""
        if move not in self.moves(state):
            raise InvalidMove(move)
        return self.moved(state, move)

    def moved(self, state, move):
        """The state after a move that is known to be one of the state's moves."""
        marking, values = state
        kind, number = move
        if kind == "input":
            signal, value = self.spec.edges[number]
            return (self.spec.net.fire(marking, number), with_character(values, signal, str(value)))
        answer = self._answer(state, number)
        after = marking if answer is None else self.spec.net.fire(marking, answer)
        return (after, self.netlist.flipped(values, number))

    def flaw_of_move(self, state, move):
        """What is wrong with a move of the state, or None."""
        kind, number = move
        if kind == "gate" and number < len(self.spec) and self._answer(state, number) is None:
            return ("unexpected", number)
        values = state[1]
        _, values_after = self.moved(state, move)
        for wire in self.netlist.excited(values):
            if move != ("gate", wire) and not self.netlist.is_excited(values_after, wire):
                return ("hazard", wire)
        return None

    def flaw_of_state(self, state):
        """What is wrong with the state, or None."""
        marking, values = state
        if self.netlist.excited(values):
            return None
        signals = [self.spec.edges[transition][0] for transition in self.spec.net.enabled(marking)]
        missed = [signal for signal in signals if not self.spec.is_input(signal)]
        return ("missed", min(missed)) if missed else None

    def run(self, moves):
        """The state after a list of moves from the initial state."""
        state = self.initial
        for move in moves:
            state = self.after(state, move)
        return state

    def trace(self, moves):
        """The edges of the signals that change along a list of moves from the initial state."""
        state = self.initial
        edges = []
        for move in moves:
            state = self.after(state, move)
            edges.extend(self._edges_of(move, state[1]))
        return edges

    def _is_input_transition(self, transition):
        return self.spec.is_input(self.spec.edges[transition][0])

    def _answer(self, state, wire):
        """The transition that fires when the gate of the wire moves, or None."""
        marking, values = state
        edge = (wire, 0 if values[wire] == "1" else 1)
        answers = [transition for transition in self.spec.net.enabled(marking) if self.spec.edges[transition] == edge]
        return answers[0] if answers else None

    def _edges_of(self, move, values):
        """The edge that the move shows, in a list that is empty for an inner wire; the values are those after it."""
        kind, number = move
        if kind == "input":
            return [self.spec.edges[number]]
        return [(number, int(values[number]))] if number < self.netlist.signal_count else []


def _suits(spec, netlist):
    """Whether the netlist has the signals of the specification first, and then inner ones only."""
    known = len(spec)
    further = netlist.signals[known:]
    return (netlist.signals[:known] == spec.signals and netlist.start[:known] == spec.start
            and all([kind == "inner" for _, kind in further]))
