"""Weightings, traps and siphons of nets."""


def weight(marking, weights):
    """The sum of the weights of the places of a marking."""
    return sum([weights[place] for place in marking])


def is_balanced(net, weights):
    """Whether no transition changes the weight of a marking."""
    return all([weight(preset, weights) == weight(postset, weights) for preset, postset in net.transitions])


def is_trap(net, places):
    """Whether every transition that takes from the places gives to them."""
    return largest_trap(net, places) == tuple(places)


def is_siphon(net, places):
    """Whether every transition that gives to the places takes from them."""
    return largest_siphon(net, places) == tuple(places)


def largest_trap(net, places):
    """The largest trap that consists of some of the places."""
    return _largest_kept(places, [(preset, postset) for preset, postset in net.transitions])


def largest_siphon(net, places):
    """The largest siphon that consists of some of the places."""
    return _largest_kept(places, [(postset, preset) for preset, postset in net.transitions])


def _largest_kept(places, pairs):
    """Drop the places of each first set whose second set has no place left."""
    left = tuple(places)
    changed = True
    while changed:
        before = len(left)
        for lost, kept in pairs:
            if not any([place in left for place in kept]):
                left = tuple([place for place in left if place not in lost])
        changed = len(left) < before
    return left
