"""Rules for signals, their codes and the texts of edges."""

LETTERS = "abcdefghijklmnopqrstuvwxyz"
DIGITS = "0123456789"
KINDS = ("input", "output", "inner")
LONGEST_NAME = 12
MOST_SIGNALS = 8


def is_name(name):
    """Whether the text may be the name of a signal."""
    if len(name) < 1 or len(name) > LONGEST_NAME:
        return False
    return name[0] in LETTERS and all([letter in LETTERS + DIGITS for letter in name])


def are_signals(signals):
    """Whether the pairs of names and kinds may be signals side by side."""
    if len(signals) > MOST_SIGNALS:
        return False
    if not all([is_name(name) and kind in KINDS for name, kind in signals]):
        return False
    return len({name for name, _ in signals}) == len(signals)


def is_code(code, width):
    """Whether the text has one value for each of so many signals."""
    return len(code) == width and all([value in "01" for value in code])


def edge_text_of(signals, edge):
    """The name of the signal and the sign of the change."""
    signal, value = edge
    return signals[signal][0] + ("+" if value == 1 else "-")


def occurrence_text(text, count):
    """The text of an edge's transition that is the `count`th one with it."""
    return text if count == 1 else f"{text}/{count}"
