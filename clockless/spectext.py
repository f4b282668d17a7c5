"""The written form of specifications."""

from clockless.drafts import SignalsDraft, take_lines
from clockless.errors import InvalidText
from clockless.nets import MOST_PLACES, MOST_TRANSITIONS, Net
from clockless.signals import edge_text_of, occurrence_text
from clockless.specs import Spec
from clockless.words import number_words, read_ascending, read_number, signal_line


def format_spec(spec):
    """The text of a specification."""
    lines = [signal_line(signal, value) for signal, value in zip(spec.signals, spec.start)]
    lines.append(" ".join(["places", str(spec.net.place_count), *number_words(spec.net.marked)]))
    for transition, (preset, postset) in enumerate(spec.net.transitions):
        words = [spec.transition_text(transition), *number_words(preset), "to", *number_words(postset)]
        lines.append(" ".join(words))
    return "\n".join(lines)


def parse_spec(text):
    """The specification with this text."""
    draft = SpecDraft()
    lines = text.split("\n")
    take_lines(draft, lines)
    if draft.place_count is None:
        raise InvalidText(len(lines) + 1)
    return draft.finished()


class SpecDraft(SignalsDraft):
    """What the lines that were read so far say of a specification."""

    def __init__(self):
        super().__init__()
        # None as long as the line for the places was not read.
        self.place_count = None
        self.marked = ()
        self.transitions = []
        self.edges = []

    def take(self, words):
        """Take in the words of the next line; False if the line is wrong."""
        if self.place_count is not None:
            return self._take_transition(words)
        if words[0] == "places":
            return self._take_places(words)
        return self.take_signal(words)

    def finished(self):
        """The specification that the lines describe."""
        net = Net(self.place_count, self.transitions, self.marked)
        return Spec(net, self.signals, self.edges, self.start)

    def _take_places(self, words):
        place_count = read_number(words[1], MOST_PLACES) if len(words) > 1 else None
        if place_count is None:
            return False
        marked = read_ascending(words[2:], place_count)
        if marked is None:
            return False
        self.place_count = place_count
        self.marked = marked
        return True

    def _take_transition(self, words):
        edge = self._next_edge(words[0])
        if edge is None or "to" not in words or len(self.transitions) == MOST_TRANSITIONS:
            return False
        middle = words.index("to")
        preset = read_ascending(words[1:middle], self.place_count)
        postset = read_ascending(words[middle + 1:], self.place_count)
        if not preset or postset is None:
            return False
        self.transitions.append((preset, postset))
        self.edges.append(edge)
        return True

    def _next_edge(self, word):
        """The edge of the next transition if this word is its text, otherwise None."""
        for signal in range(len(self.signals)):
            for value in (0, 1):
                edge = (signal, value)
                count = self.edges.count(edge) + 1
                if word == occurrence_text(edge_text_of(self.signals, edge), count):
                    return edge
        return None
