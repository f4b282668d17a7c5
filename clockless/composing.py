"""Composing two specifications that share signals."""

from clockless.errors import NotComposable
from clockless.graphs import explore
from clockless.nets import Net
from clockless.signals import MOST_SIGNALS
from clockless.specs import Spec

SHARED_KINDS = (("input", "input"), ("input", "output"), ("output", "input"))


def are_composable(first, second):
    """Whether the signals of both suit each other."""
    names = _names(first)
    for signal, name in enumerate(_names(second)):
        if name in names and not _suit(first, names.index(name), second, signal):
            return False
    return len(set(names + _names(second))) <= MOST_SIGNALS


def compose(first, second):
    """The specification that describes both at once."""
    if not are_composable(first, second):
        raise NotComposable("the signals of the specifications do not suit each other")
    numbers = _numbers(first, second)
    others = _renumbered(second, first.net.place_count, numbers)
    made = []
    for own in zip(first.net.transitions, first.edges):
        _, edge = own
        if edge[0] in numbers:
            made.extend([(_union(own[0], arc), edge) for arc, known in others if known == edge])
        else:
            made.append(own)
    made.extend([(arc, edge) for arc, edge in others if edge[0] >= len(first)])
    marked = first.net.marked + _moved(second.net.marked, first.net.place_count)
    net = Net(first.net.place_count + second.net.place_count, [arc for arc, _ in made], marked)
    return Spec(net, _signals(first, second, numbers), [edge for _, edge in made], _start(first, second, numbers))


def unreceived(first, second, *, limit=1000):
    """The way to the first state that misses a reception, and the output that is missed; None if there is none."""
    graph = explore(compose(first, second), limit=limit)
    numbers = _numbers(first, second)
    own = list(range(len(first)))
    border = first.net.place_count
    for state, (marking, _) in enumerate(graph):
        edges = _enabled_edges(first, [place for place in marking if place < border], own)
        others = _enabled_edges(second, [place - border for place in marking if place >= border], numbers)
        missed = [edge for edge in edges if edge not in others and edge[0] in _outputs(first, own, numbers)]
        missed += [edge for edge in others if edge not in edges and edge[0] in _outputs(second, numbers, own)]
        if missed:
            return (graph.path(state), min(missed))
    return None


def _names(spec):
    return [name for name, _ in spec.signals]


def _suit(first, signal, second, other):
    """Whether the two signals may have one name."""
    kinds = (first.signals[signal][1], second.signals[other][1])
    return kinds in SHARED_KINDS and first.start[signal] == second.start[other]


def _numbers(first, second):
    """For each signal of the second specification its number in the composition."""
    names = _names(first)
    further = [name for name in _names(second) if name not in names]
    return [(names + further).index(name) for name in _names(second)]


def _signals(first, second, numbers):
    """The signals of the composition."""
    signals = list(first.signals)
    for number, signal in zip(numbers, second.signals):
        if number >= len(first):
            signals.append(signal)
        elif signal[1] == "output":
            signals[number] = signal
    return signals


def _start(first, second, numbers):
    """The start code of the composition."""
    return first.start + "".join([value for number, value in zip(numbers, second.start) if number >= len(first)])


def _moved(places, by):
    """The places with numbers that are increased."""
    return tuple([place + by for place in places])


def _renumbered(spec, by, numbers):
    """The pairs of the preset and postset and the edge of each transition, with the numbers of the composition."""
    return [((_moved(preset, by), _moved(postset, by)), (numbers[signal], value))
            for (preset, postset), (signal, value) in zip(spec.net.transitions, spec.edges)]


def _union(arc, other):
    """The presets of both together, and the postsets of both; the places of the other one have greater numbers."""
    return (arc[0] + other[0], arc[1] + other[1])


def _enabled_edges(spec, marking, numbers):
    """The edges that the marking enables, with the signals' numbers in the composition."""
    edges = [spec.edges[transition] for transition in spec.net.enabled(marking)]
    return [(numbers[signal], value) for signal, value in edges]


def _outputs(spec, numbers, other_numbers):
    """The numbers in the composition of the outputs that the other specification has, too."""
    return [number for number, (_, kind) in zip(numbers, spec.signals) if kind == "output" and number in other_numbers]
