"""Prefixes: what a specification may do, without a list of its states."""

from heapq import heappop, heappush

from clockless.errors import TooLarge
from clockless.occurrences import Occurrences


def unfold(spec, *, limit=500):
    """The prefix of a specification."""
    unfolding = Unfolding(spec, limit)
    while unfolding.waiting:
        unfolding.take_next()
    return Prefix(unfolding.made, unfolding.cutoffs)


class Prefix:
    """The conditions and events of a specification up to its cut-offs."""

    def __init__(self, made, cutoffs):
        self.spec = made.spec
        self._made = made
        self._cutoffs = list(cutoffs)

    def __len__(self):
        return len(self._cutoffs)

    @property
    def conditions(self):
        """The place of each condition, and the event that produced it or None."""
        return list(self._made.tokens)

    def transition(self, event):
        """The transition of the event."""
        return self._made.events[event][0]

    def consumed(self, event):
        """The conditions that the event consumes."""
        return self._made.events[event][1]

    def produced(self, event):
        """The conditions that the event produces."""
        return self._made.events[event][2]

    def past(self, event):
        """The event and all those without which it would not happen."""
        return self._made.pasts[event]

    def is_cutoff(self, event):
        """Whether the prefix does not go on after the event."""
        return self._cutoffs[event]

    def cut_of(self, events):
        """The conditions after the events of a configuration."""
        return self._made.cut_of(events)

    def state_of(self, events):
        """The marking and the code after the events of a configuration."""
        return self._made.state_of(events)


class Unfolding:
    """A prefix that is being built, and the extensions that are waiting to be added."""

    def __init__(self, spec, limit):
        self.made = Occurrences(spec)
        self.limit = limit
        self.cutoffs = []
        # The least number of events after which each state was found.
        self.sizes = {self.made.state_of(()): 0}
        # The extensions that were not added yet, with their sizes.
        self.waiting = []
        # For each place its conditions that extensions may use, and for each such condition
        # the ones that may be there together with it.
        self.usable = [[] for _ in range(spec.net.place_count)]
        self.beside = {}
        self._admit(self.made.first_tokens, [])

    def take_next(self):
        """Add the first extension as an event."""
        size, transition, consumed = heappop(self.waiting)
        event = self.made.make_event(transition, consumed)
        state = self.made.state_of(self.made.pasts[event])
        self.cutoffs.append(state in self.sizes and self.sizes[state] < size)
        if not self.cutoffs[event]:
            # The sizes of events never fall, so the first one that leads to a state is the smallest.
            self.sizes[state] = size
            others = [token for token in self.beside[consumed[0]] if self._is_beside_all(token, consumed[1:])]
            self._admit(self.made.events[event][2], others)

    def _is_beside_all(self, token, others):
        """Whether the condition may be there together with all of the others."""
        return all([token in self.beside[other] for other in others])

    def _admit(self, tokens, others):
        """Let extensions use the new conditions, which may be there together with one another and with the others."""
        present = list(others)
        for token in tokens:
            self.beside[token] = {other: True for other in present}
            for other in present:
                self.beside[other][token] = True
            self._find_extensions(token)
            self.usable[self.made.tokens[token][0]].append(token)
            present.append(token)

    def _find_extensions(self, token):
        """Note the extensions with the condition and conditions that were there before it."""
        net = self.made.spec.net
        place, _ = self.made.tokens[token]
        for transition in net.consumers(place):
            self._complete(transition, (token,), [other for other in net.preset(transition) if other != place])

    def _complete(self, transition, tokens, places):
        """Note the extensions with these conditions and one more on each of the places."""
        if places == []:
            self._note(transition, tuple(sorted(tokens)))
            return
        for further in self.usable[places[0]]:
            if self._is_beside_all(further, tokens):
                self._complete(transition, (*tokens, further), places[1:])

    def _note(self, transition, tokens):
        """Let an extension wait for its turn."""
        # Nothing keeps an extension that waits from becoming an event, so the limit holds for both together.
        if len(self.cutoffs) + len(self.waiting) >= self.limit:
            raise TooLarge(self.limit)
        heappush(self.waiting, (len(self.made.past_of(tokens)) + 1, transition, tokens))
