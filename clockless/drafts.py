"""What texts of several kinds begin with: the lines of their signals."""

from clockless.words import read_signal


class SignalsDraft:
    """The signals that the lines that were read so far describe."""

    def __init__(self):
        self.signals = []
        self.start = ""

    def take_signal(self, words):
        """Take in the words of a line for a signal; False if the line is wrong."""
        read = read_signal(words, self.signals)
        if read is None:
            return False
        signal, value = read
        self.signals.append(signal)
        self.start += value
        return True
