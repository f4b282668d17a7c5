"""Conditions and events: what prefixes are made of."""

from clockless.cubes import with_character


class Occurrences:
    """The conditions and events of a specification that have been made so far."""

    def __init__(self, spec):
        self.spec = spec
        # The place of each condition, and the event that produced it or None.
        self.tokens = []
        # The transition of each event, and the conditions that it consumes and produces.
        self.events = []
        self.pasts = []
        self.first_tokens = self._make_tokens(spec.net.marked, None)

    def make_event(self, transition, consumed):
        """Make an event of the transition, and the conditions that it produces; its number."""
        event = len(self.events)
        self.pasts.append((*self.past_of(consumed), event))
        produced = self._make_tokens(self.spec.net.postset(transition), event)
        self.events.append((transition, consumed, produced))
        return event

    def past_of(self, tokens):
        """The events without which the conditions would not be there, ascending."""
        makers = [self.tokens[token][1] for token in tokens]
        return sorted({event for maker in makers if maker is not None for event in self.pasts[maker]})

    def cut_of(self, events):
        """The conditions that are there when the events of a configuration, ascending, have happened."""
        # The later of two events has the greater number, and so have the conditions that it produces.
        made = [token for event in events for token in self.events[event][2]]
        gone = {token: True for event in events for token in self.events[event][1]}
        return tuple([token for token in [*self.first_tokens, *made] if token not in gone])

    def state_of(self, events):
        """The marking and the code when the events of a configuration, ascending, have happened."""
        marking = tuple(sorted([self.tokens[token][0] for token in self.cut_of(events)]))
        code = self.spec.start
        for event in events:
            signal, _ = self.spec.edges[self.events[event][0]]
            code = with_character(code, signal, "0" if code[signal] == "1" else "1")
        return (marking, code)

    def _make_tokens(self, places, event):
        """Make a condition for each of the places; their numbers."""
        first = len(self.tokens)
        self.tokens.extend([(place, event) for place in places])
        return tuple(range(first, len(self.tokens)))
