"""Inserting a state signal into a specification."""

from clockless.nets import MOST_PLACES, MOST_TRANSITIONS, Net
from clockless.signals import MOST_SIGNALS
from clockless.specs import Spec


def insertion_points(spec):
    """The driven transitions that share no place of their presets with another consumer."""
    return [transition for transition, (signal, _) in enumerate(spec.edges)
            if not spec.is_input(signal) and _consumes_alone(spec.net, transition)]


def new_name(spec):
    """The first of s0, s1, s2 and so on that no signal has."""
    names = [name for name, _ in spec.signals]
    number = 0
    while f"s{number}" in names:
        number += 1
    return f"s{number}"


def insert(spec, name, *, rise, fall, value):
    """The specification with a new inner signal that rises before `rise` and falls before `fall`."""
    net = spec.net
    risen, fallen = net.place_count, net.place_count + 1
    transitions = list(net.transitions)
    transitions[rise] = ((risen,), net.postset(rise))
    transitions[fall] = ((fallen,), net.postset(fall))
    transitions.append((net.preset(rise), (risen,)))
    transitions.append((net.preset(fall), (fallen,)))
    signal = len(spec)
    return Spec(Net(net.place_count + 2, transitions, net.marked), [*spec.signals, (name, "inner")],
                [*spec.edges, (signal, 1), (signal, 0)], spec.start + value)


def has_room(spec):
    """Whether one more signal fits into the specification."""
    return (len(spec) < MOST_SIGNALS and spec.net.place_count + 2 <= MOST_PLACES
            and len(spec.net) + 2 <= MOST_TRANSITIONS)


def candidates(spec):
    """The triples of two insertion points and a start value, ascending; none without room."""
    points = insertion_points(spec) if has_room(spec) else []
    for rise in points:
        for fall in points:
            if rise != fall:
                yield (rise, fall, "0")
                yield (rise, fall, "1")


def _consumes_alone(net, transition):
    """Whether no place of the preset has another consumer."""
    return all([net.consumers(place) == [transition] for place in net.preset(transition)])
