"""Specifications: nets whose transitions are edges of signals."""

from clockless.errors import InvalidSpec, UnknownName
from clockless.signals import are_signals, edge_text_of, is_code, occurrence_text


def _are_edges(edges, signal_count):
    """Whether each edge is a change of one of so many signals."""
    return all([0 <= signal < signal_count and value in (0, 1) for signal, value in edges])


def _numbered(texts):
    """The texts, told apart by their counts where they are equal."""
    counts = {}
    numbered = []
    for text in texts:
        counts[text] = counts.get(text, 0) + 1
        numbered.append(occurrence_text(text, counts[text]))
    return numbered


def _mirrored(kind):
    """The kind that a signal has for the environment."""
    if kind == "input":
        return "output"
    return "input" if kind == "output" else kind


class Spec:
    """A net together with signals, edges and start values."""

    def __init__(self, net, signals, edges, start):
        if not are_signals(signals):
            raise InvalidSpec("wrong signals")
        if len(edges) != len(net):
            raise InvalidSpec("wrong number of edges")
        if not _are_edges(edges, len(signals)):
            raise InvalidSpec("a wrong edge")
        if not is_code(start, len(signals)):
            raise InvalidSpec("a wrong start code")
        self.net = net
        self.signals = tuple([(name, kind) for name, kind in signals])
        self.edges = tuple([(signal, value) for signal, value in edges])
        self.start = start
        self._texts = _numbered([self.edge_text(edge) for edge in self.edges])

    def __len__(self):
        return len(self.signals)

    def __eq__(self, other):
        return (isinstance(other, Spec)
                and self.net.place_count == other.net.place_count
                and self.net.transitions == other.net.transitions
                and self.net.marked == other.net.marked
                and self.signals == other.signals
                and self.edges == other.edges
                and self.start == other.start)

    @property
    def driven(self):
        """The signals that the circuit drives."""
        return tuple([signal for signal, (_, kind) in enumerate(self.signals) if kind != "input"])

    def is_input(self, signal):
        """Whether the environment drives the signal."""
        return self.signals[signal][1] == "input"

    def signal_named(self, name):
        """The number of the signal with this name."""
        for signal, (known, _) in enumerate(self.signals):
            if known == name:
                return signal
        raise UnknownName(name)

    def transitions_of(self, edge):
        """The transitions that have this edge."""
        return [transition for transition, own in enumerate(self.edges) if own == edge]

    def edge_text(self, edge):
        """The text of an edge."""
        return edge_text_of(self.signals, edge)

    def transition_text(self, transition):
        """The text of a transition, which no other transition has."""
        return self._texts[transition]

    def transition_named(self, text):
        """The number of the transition with this text."""
        for transition, known in enumerate(self._texts):
            if known == text:
                return transition
        raise UnknownName(text)

    def mirror(self):
        """The specification of the environment."""
        signals = [(name, _mirrored(kind)) for name, kind in self.signals]
        return Spec(self.net, signals, self.edges, self.start)
