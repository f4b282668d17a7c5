"""Configurations of prefixes: the events that have happened at some time."""

from clockless.errors import TooLarge


def is_configuration(prefix, events):
    """Whether the events may be those that have happened at some time."""
    present = {event: True for event in events}
    if not all([earlier in present for event in events for earlier in prefix.past(event)]):
        return False
    consumed = [condition for event in events for condition in prefix.consumed(event)]
    return len(set(consumed)) == len(consumed)


def cut(prefix, events):
    """The conditions that are there after the events."""
    return prefix.cut_of(events)


def state_of(prefix, events):
    """The marking and the code after the events."""
    return prefix.state_of(events)


def relation(prefix, first, second):
    """How the first event stands to the second one."""
    if first in prefix.past(second):
        return "precedes"
    if second in prefix.past(first):
        return "follows"
    both = sorted(set(prefix.past(first) + prefix.past(second)))
    return "concurrent" if is_configuration(prefix, both) else "conflict"


def linearised(prefix, events):
    """The transitions of the events, in an order in which they can be fired."""
    return [prefix.transition(event) for event in events]


def configurations(prefix, *, limit=5000):
    """The configurations without cut-offs, the smaller ones first."""
    consumers = _consumers(prefix)
    found = [()]
    taken = 0
    while taken < len(found):
        if len(found) > limit:
            raise TooLarge(limit)
        # Each configuration is found once: from the one without its last event.
        events = found[taken]
        found.extend([(*events, event) for event in _following(prefix, consumers, events)])
        taken += 1
    return found


def states_of(prefix, *, limit=5000):
    """The states of the configurations without cut-offs, ascending."""
    return sorted({state_of(prefix, events) for events in configurations(prefix, limit=limit)})


def _consumers(prefix):
    """For each condition the events that consume it, without cut-offs."""
    consumers = [[] for _ in prefix.conditions]
    for event in range(len(prefix)):
        if not prefix.is_cutoff(event):
            for condition in prefix.consumed(event):
                consumers[condition].append(event)
    return consumers


def _following(prefix, consumers, events):
    """The events behind the last one of a configuration that may happen next, ascending."""
    last = events[-1] if events else -1
    there = {condition: True for condition in cut(prefix, events)}
    later = sorted({event for condition in there for event in consumers[condition] if event > last})
    return [event for event in later if all([condition in there for condition in prefix.consumed(event)])]
