"""Processes, which order edges without places, and programs of such processes."""

from clockless.errors import InvalidProgram
from clockless.signals import are_signals, is_code

FEWEST_PARTS = 2
MOST_PARTS = 8
MOST_DEPTH = 12
MOST_LOOPS = 4


def is_well_formed(process, signal_count):
    """Whether the process keeps the rules for processes, with so many signals."""
    return _is_formed(process, signal_count, MOST_DEPTH)


def depth(process):
    """How many levels the process has, from itself down to its edges."""
    count = 0
    level = [process]
    while level:
        count += 1
        level = [part for one in level if one[0] != "edge" for part in one[1]]
    return count


def steps(process):
    """The edges that may happen first, each with what remains after it."""
    kind = process[0]
    if kind == "edge":
        return [(process[1:], None)]
    parts = process[1]
    if kind == "seq":
        return [(edge, _after_first(left, parts[1:])) for edge, left in steps(parts[0])]
    if kind == "choice":
        return [step for part in parts for step in steps(part)]
    return [(edge, _after_branch(left, parts, index))
            for index, part in enumerate(parts) for edge, left in steps(part)]


class Program:
    """Processes that are repeated for ever, side by side."""

    def __init__(self, signals, start, loops):
        if not are_signals(signals):
            raise InvalidProgram("wrong signals")
        if not is_code(start, len(signals)):
            raise InvalidProgram("a wrong start code")
        if len(loops) < 1 or len(loops) > MOST_LOOPS:
            raise InvalidProgram("wrong number of loops")
        if not all([is_well_formed(loop, len(signals)) for loop in loops]):
            raise InvalidProgram("a loop that is not well formed")
        self.signals = tuple([(name, kind) for name, kind in signals])
        self.start = start
        self.loops = tuple(loops)

    @property
    def initial(self):
        """The state in which each loop begins."""
        return self.loops

    def steps(self, state):
        """The edges that may happen next, each with the state after it."""
        return [(edge, (*state[:index], self._remaining(index, left), *state[index + 1:]))
                for index, process in enumerate(state) for edge, left in steps(process)]

    def _remaining(self, index, left):
        """What a loop has to do when this is left of its process."""
        return self.loops[index] if left is None else left


def _is_formed(process, signal_count, levels):
    """Whether the process keeps the rules and has at most so many levels."""
    if levels == 0:
        return False
    if process[0] == "edge":
        _, signal, value = process
        return 0 <= signal < signal_count and value in (0, 1)
    kind, parts = process
    if len(parts) < FEWEST_PARTS or len(parts) > MOST_PARTS:
        return False
    for part in parts:
        if kind == "seq" and part[0] == "seq" or not _is_formed(part, signal_count, levels - 1):
            return False
    return True


def _after_first(left, others):
    """What remains of a sequence when this is left of its first part."""
    if left is None:
        return others[0] if len(others) == 1 else ("seq", others)
    return ("seq", (*left[1], *others)) if left[0] == "seq" else ("seq", (left, *others))


def _after_branch(left, parts, index):
    """What remains of parts side by side when this is left of one of them."""
    if left is not None:
        return ("par", (*parts[:index], left, *parts[index + 1:]))
    others = parts[:index] + parts[index + 1:]
    return others[0] if len(others) == 1 else ("par", others)
