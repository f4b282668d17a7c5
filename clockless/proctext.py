"""The written form of programs."""

from clockless.drafts import SignalsDraft, take_lines
from clockless.errors import InvalidText
from clockless.processes import MOST_DEPTH, MOST_LOOPS, Program, is_well_formed
from clockless.signals import edge_text_of
from clockless.words import signal_line

# What binds least stands first.
SEPARATORS = {"par": "|", "choice": "/", "seq": ";"}


def format_process(process, signals):
    """The text of a process."""
    if process[0] == "edge":
        return edge_text_of(signals, process[1:])
    kind, parts = process
    separator = f" {SEPARATORS[kind]} "
    return separator.join([_part_text(part, kind, signals) for part in parts])


def format_program(program):
    """The text of a program."""
    lines = [signal_line(signal, value) for signal, value in zip(program.signals, program.start)]
    return "\n".join(lines + [f"loop {format_process(loop, program.signals)}" for loop in program.loops])


def parse_program(text):
    """The program with this text."""
    draft = ProgramDraft()
    lines = text.split("\n")
    take_lines(draft, lines)
    if draft.loops == []:
        raise InvalidText(len(lines) + 1)
    return Program(draft.signals, draft.start, draft.loops)


def _part_text(part, kind, signals):
    """The text of a part of a process of this kind, with the parentheses that are due."""
    text = format_process(part, signals)
    if part[0] == "edge" or (part[0] == "seq" and kind != "seq"):
        return text
    return f"( {text} )"


def _read_process(words, edges, levels):
    """The process that the words may write, with parentheses down to so many levels; None if they write none.

    It is read freely: whether it is well formed and has this very text is not looked at.
    """
    for kind in SEPARATORS:
        runs = _split(words, SEPARATORS[kind])
        if len(runs) > 1:
            parts = [_read_process(run, edges, levels) for run in runs]
            return None if None in parts else (kind, tuple(parts))
    if len(words) == 1 and words[0] in edges:
        return ("edge", *edges[words[0]])
    if len(words) < 2 or words[0] != "(" or words[-1] != ")" or levels == 0:
        return None
    return _read_process(words[1:-1], edges, levels - 1)


def _split(words, separator):
    """The words between the separators that stand outside of all parentheses."""
    runs = [[]]
    opened = 0
    for word in words:
        if word == "(":
            opened += 1
        elif word == ")":
            opened -= 1
        if word == separator and opened == 0:
            runs.append([])
        else:
            runs[-1].append(word)
    return runs


class ProgramDraft(SignalsDraft):
    """What the lines that were read so far say of a program."""

    def __init__(self):
        super().__init__()
        self.loops = []

    def take(self, words):
        """Take in the words of the next line; False if the line is wrong."""
        if words[0] == "loop":
            return self._take_loop(words[1:])
        return self.loops == [] and self.take_signal(words)

    def _take_loop(self, words):
        edges = {edge_text_of(self.signals, (signal, value)): (signal, value)
                 for signal in range(len(self.signals)) for value in (0, 1)}
        process = _read_process(words, edges, MOST_DEPTH)
        if process is None or len(self.loops) == MOST_LOOPS:
            return False
        # What was read freely is right exactly if it is written in the same way.
        if not is_well_formed(process, len(self.signals)) or format_process(process, self.signals) != " ".join(words):
            return False
        self.loops.append(process)
        return True
