"""Nets and specifications that several tests use."""

import itertools
import random

from clockless.nets import Net
from clockless.specs import Spec

HANDSHAKE = "\n".join([
    "signal a input 0",
    "signal b output 0",
    "places 4 0",
    "a+ 0 to 1",
    "b+ 1 to 2",
    "a- 2 to 3",
    "b- 3 to 0",
])


def ascending_sets(count):
    """All ascending tuples of numbers below the count."""
    return [chosen for size in range(count + 1) for chosen in itertools.combinations(range(count), size)]


def some_places(chance, count, most):
    """An ascending tuple of at most so many places."""
    return tuple(sorted(chance.sample(range(count), chance.randint(0, min(most, count)))))


def random_net(seed, *, most_places=5, most_transitions=5):
    """A small net that the seed decides."""
    chance = random.Random(seed)
    count = chance.randint(1, most_places)
    transitions = []
    for _ in range(chance.randint(0, most_transitions)):
        preset = some_places(chance, count, 2)
        if preset:
            transitions.append((preset, some_places(chance, count, 2)))
    return Net(count, transitions, some_places(chance, count, 3))


def ring_net(count):
    """Transitions one after another in a ring, with one token."""
    return Net(count, [((k,), ((k + 1) % count,)) for k in range(count)], (0,))


def random_spec(seed):
    """A small specification that the seed decides; many of them have faults."""
    chance = random.Random(seed)
    net = random_net(seed, most_places=6, most_transitions=6)
    count = chance.randint(1, 3)
    signals = [(name, chance.choice(["input", "output", "inner"])) for name in ["a", "b", "c"][:count]]
    edges = [(chance.randrange(count), chance.randrange(2)) for _ in range(len(net))]
    return Spec(net, signals, edges, "".join(chance.choice("01") for _ in signals))
