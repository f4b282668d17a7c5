"""Petri nets: places, transitions, markings and firing."""

from clockless.errors import InvalidNet, NotEnabled, Unsafe
from clockless.orders import is_ascending

MOST_PLACES = 64
MOST_TRANSITIONS = 64


def are_places(places, place_count):
    """Whether the numbers are ascending and each one is a place."""
    return is_ascending(places) and all([0 <= place < place_count for place in places])


def _users(place_count, place_sets):
    """For each place the ascending list of the sets that contain it."""
    users = [[] for _ in range(place_count)]
    for index, places in enumerate(place_sets):
        for place in places:
            users[place].append(index)
    return users


class Net:
    """A net with its initial marking."""

    def __init__(self, place_count, transitions, marked):
        if place_count < 0 or place_count > MOST_PLACES:
            raise InvalidNet("wrong number of places")
        if len(transitions) > MOST_TRANSITIONS:
            raise InvalidNet("too many transitions")
        for preset, postset in transitions:
            if len(preset) == 0:
                raise InvalidNet("an empty preset")
            if not are_places(preset, place_count) or not are_places(postset, place_count):
                raise InvalidNet("wrong places of a transition")
        if not are_places(marked, place_count):
            raise InvalidNet("wrong initial marking")
        self.place_count = place_count
        self.transitions = tuple([(tuple(preset), tuple(postset)) for preset, postset in transitions])
        self.marked = tuple(marked)
        self._consumers = _users(place_count, [preset for preset, _ in self.transitions])
        self._producers = _users(place_count, [postset for _, postset in self.transitions])

    def __len__(self):
        return len(self.transitions)

    def preset(self, transition):
        """The places that the transition takes tokens from."""
        return self.transitions[transition][0]

    def postset(self, transition):
        """The places that the transition puts tokens on."""
        return self.transitions[transition][1]

    def consumers(self, place):
        """The transitions that have the place in their presets."""
        return list(self._consumers[place])

    def producers(self, place):
        """The transitions that have the place in their postsets."""
        return list(self._producers[place])

    def is_enabled(self, marking, transition):
        """Whether the marking contains the preset of the transition."""
        return all([place in marking for place in self.preset(transition)])

    def enabled(self, marking):
        """The transitions that are enabled at the marking."""
        # Presets are not empty, so only consumers of marked places are looked at.
        found = {}
        for place in marking:
            for transition in self._consumers[place]:
                found[transition] = found.get(transition, 0) + 1
        return sorted([transition for transition in found if found[transition] == len(self.preset(transition))])

    def fire(self, marking, transition):
        """The marking after firing the transition."""
        if not self.is_enabled(marking, transition):
            raise NotEnabled(transition)
        preset, postset = self.transitions[transition]
        left = [place for place in marking if place not in preset]
        doubled = [place for place in postset if place in left]
        if doubled:
            raise Unsafe([transition], doubled[0])
        return tuple(sorted([*left, *postset]))

    def fire_all(self, sequence, *, marking=None):
        """The marking after firing the transitions one after another."""
        present = self.marked if marking is None else marking
        for index in range(len(sequence)):
            present = self._fire_at(present, sequence, index)
        return present

    def markings_along(self, sequence):
        """The initial marking, and the one after each transition."""
        steps = list(sequence)
        present = self.marked
        yield present
        for index in range(len(steps)):
            present = self._fire_at(present, steps, index)
            yield present

    def conflict(self, first, second):
        """Whether the two transitions take a token from the same place."""
        others = self.preset(second)
        return any([place in others for place in self.preset(first)])

    def independent(self, first, second):
        """Whether no place is used by both transitions."""
        others = self.preset(second) + self.postset(second)
        return not any([place in others for place in self.preset(first) + self.postset(first)])

    def _fire_at(self, marking, sequence, index):
        """Fire one transition of a sequence; a fault is told with what led to it."""
        try:
            return self.fire(marking, sequence[index])
        except Unsafe as error:
            raise Unsafe(sequence[:index + 1], error.place) from None
