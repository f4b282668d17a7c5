"""Reading and writing the words of a line."""

from clockless.orders import is_ascending
from clockless.signals import DIGITS, are_signals


def read_number(word, most):
    """The number that the word writes, or None if it writes none up to `most`."""
    # The length is looked at first: a word may have more digits than `int` takes.
    if word == "" or len(word) > len(str(most)):
        return None
    if not all([digit in DIGITS for digit in word]):
        return None
    if len(word) > 1 and word[0] == "0":
        return None
    number = int(word)
    return number if number <= most else None


def read_numbers(words, below):
    """The tuple of numbers that the words write, each below the given one, or None."""
    numbers = tuple([read_number(word, below - 1) for word in words])
    return None if None in numbers else numbers


def read_ascending(words, below):
    """The ascending tuple of numbers that the words write, or None."""
    numbers = read_numbers(words, below)
    return numbers if numbers is not None and is_ascending(numbers) else None


def number_words(numbers):
    """The words that write the numbers."""
    return [str(number) for number in numbers]


def signal_line(signal, value):
    """The line of a signal and its start value."""
    name, kind = signal
    return f"signal {name} {kind} {value}"


def read_signal(words, signals):
    """The signal and the start value that the words of a line add to the signals, or None."""
    if len(words) != 4 or words[0] != "signal" or words[3] not in ("0", "1"):
        return None
    signal = (words[1], words[2])
    return (signal, words[3]) if are_signals([*signals, signal]) else None
