"""All errors of the program."""

# Each __init__ hands a message on, so that the error does not keep
# the very list that it was made with among its arguments.


class ClocklessError(ValueError):
    """The base class of all errors of the program."""


class InvalidNet(ClocklessError):
    """A net is not valid."""


class NotEnabled(ClocklessError):
    """A transition is to be fired that is not enabled."""

    def __init__(self, transition):
        super().__init__(f"transition {transition} is not enabled")
        self.transition = transition


class Refusal(ClocklessError):
    """The base class of all reasons why a specification has no circuit."""


class Unsafe(Refusal):
    """The last transition of a sequence puts a second token on a place."""

    def __init__(self, sequence, place):
        super().__init__(f"{sequence} puts a second token on place {place}")
        self.sequence = list(sequence)
        self.place = place


class InvalidSpec(ClocklessError):
    """A specification is not valid."""


class UnknownName(ClocklessError):
    """There is no signal or transition of this name."""

    def __init__(self, name):
        super().__init__(f"unknown name {name}")
        self.name = name


class InvalidText(ClocklessError):
    """A line of a text, counted from 1, is wrong."""

    def __init__(self, line):
        super().__init__(f"line {line} is wrong")
        self.line = line


class Inconsistent(Refusal):
    """The last transition of a sequence repeats the value of its signal."""

    def __init__(self, sequence):
        super().__init__(f"{sequence} repeats the value of a signal")
        self.sequence = list(sequence)


class TooLarge(Refusal):
    """There is more to be found than the limit allows."""

    def __init__(self, limit):
        super().__init__(f"more than {limit}")
        self.limit = limit


class Nondeterministic(Refusal):
    """After a sequence two transitions with one edge lead to different states."""

    def __init__(self, sequence, first, second):
        super().__init__(f"after {sequence}, {first} and {second} lead to different states")
        self.sequence = list(sequence)
        self.first = first
        self.second = second


class NotPersistent(Refusal):
    """After a sequence one transition disables the edge of another one."""

    def __init__(self, sequence, disabled, by):
        super().__init__(f"after {sequence}, {by} disables {disabled}")
        self.sequence = list(sequence)
        self.disabled = disabled
        self.by = by


class CodeConflict(Refusal):
    """Two sequences lead to states that a circuit cannot tell apart."""

    def __init__(self, first, second):
        super().__init__(f"{first} and {second} lead to the same code")
        self.first = list(first)
        self.second = list(second)


class InvalidNetlist(ClocklessError):
    """A netlist is not valid."""


class InvalidBoard(ClocklessError):
    """The signals of a netlist do not suit those of a specification."""


class InvalidMove(ClocklessError):
    """A move is not among the moves of a state."""

    def __init__(self, move):
        super().__init__(f"{move} is not a move here")
        self.move = move


class Flawed(ClocklessError):
    """A list of moves leads to a flaw."""

    def __init__(self, moves, kind, wire):
        super().__init__(f"{moves} lead to a flaw: {kind} {wire}")
        self.moves = list(moves)
        self.kind = kind
        self.wire = wire


class InvalidProgram(ClocklessError):
    """The signals, start values or loops of a program are not valid."""


class NotTranslatable(ClocklessError):
    """A loop of a program is not closed."""

    def __init__(self, loop):
        super().__init__(f"loop {loop} is not closed")
        self.loop = loop


class NotComposable(ClocklessError):
    """Two specifications are not composable."""
