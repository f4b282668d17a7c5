"""Reading texts line by line, and what all of them begin with: the lines of their signals."""

from clockless.errors import InvalidText
from clockless.words import read_signal


def take_lines(draft, lines):
    """Let a draft take in the lines, up to the first wrong one."""
    for number, line in enumerate(lines, start=1):
        if not draft.take(line.split(" ")):
            raise InvalidText(number)


class SignalsDraft:
    """The signals that the lines that were read so far describe."""

    def __init__(self):
        self.signals = []
        self.start = ""

    def take_signal(self, words):
        """Take in the words of a line for a signal; False if the line is wrong."""
        read = read_signal(words, self.signals)
        if read is None:
            return False
        signal, value = read
        self.signals.append(signal)
        self.start += value
        return True
