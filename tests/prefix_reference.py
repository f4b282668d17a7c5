"""Prefixes straight from the words of points 77 to 81, for comparison, and specifications to unfold."""

import itertools

from clockless.errors import ClocklessError
from clockless.graphs import explore
from clockless.nets import Net
from clockless.specs import Spec
from clockless.translating import translate
from tests.process_reference import circuit_program, random_program
from tests.samples import chains_spec, random_loop, random_machines, random_spec, ring


class Reference:
    """Conditions (place, event) and events (transition, consumed), added one by one."""

    def __init__(self, spec):
        self.spec = spec
        self.conditions = [(place, None) for place in spec.net.marked]
        self.events, self.cutoffs = [], []
        while self.extensions():
            self.add(min(self.extensions()))

    def past(self, conditions):
        events = {self.conditions[k][1] for k in conditions} - {None}
        for event in list(events):
            events |= self.past(self.events[event][1])
        return events

    def is_configuration(self, events):
        consumed = [k for event in events for k in self.events[event][1]]
        whole = all(self.past(self.events[event][1]) <= set(events) for event in events)
        return whole and len(set(consumed)) == len(consumed)

    def cut(self, events):
        consumed = {k for event in events for k in self.events[event][1]}
        return [k for k, (_, maker) in enumerate(self.conditions)
                if (maker is None or maker in events) and k not in consumed]

    def state(self, events):
        values = [int(value) for value in self.spec.start]
        for event in events:
            values[self.spec.edges[self.events[event][0]][0]] += 1
        marking = tuple(sorted(self.conditions[k][0] for k in self.cut(events)))
        return marking, "".join(str(value % 2) for value in values)

    def extensions(self):
        found = []
        for transition, (preset, _) in enumerate(self.spec.net.transitions):
            choices = [[k for k, (place, maker) in enumerate(self.conditions)
                        if place == wanted and (maker is None or not self.cutoffs[maker])] for wanted in preset]
            for chosen in itertools.product(*choices):
                chosen = tuple(sorted(chosen))
                past = self.past(chosen)
                if (transition, chosen) not in self.events and self.is_configuration(past):
                    if set(chosen) <= set(self.cut(past)):
                        found.append((len(past) + 1, transition, chosen))
        return found

    def add(self, extension):
        size, transition, chosen = extension
        event = len(self.events)
        earlier = [self.past(consumed) | {k} for k, (_, consumed) in enumerate(self.events)]
        self.events.append((transition, chosen))
        self.conditions += [(place, event) for place in self.spec.net.postset(transition)]
        state = self.state({*self.past(chosen), event})
        smaller = [past for past in earlier if len(past) < size and self.state(past) == state]
        self.cutoffs.append(state == (self.spec.net.marked, self.spec.start) or bool(smaller))


def has_graph(spec, most=300):
    try:
        return len(explore(spec, limit=most)) <= most
    except ClocklessError:
        return False


def diamonds(count, *, ways=2):
    """So many choices one after another, each between equal ways; no two of them are told apart by their states."""
    arcs = [((k,), (k + 1,)) for k in range(count) for _ in range(ways)]
    edges = [(0, 1 - k % 2) for k in range(count) for _ in range(ways)]
    return Spec(Net(count + 1, arcs, (0,)), [("a", "input")], edges, "0")


def toggles(count):
    """Signals that rise and fall independently of one another."""
    arcs = [((2 * k + bit,), (2 * k + 1 - bit,)) for k in range(count) for bit in (0, 1)]
    edges = [(k, 1 - bit) for k in range(count) for bit in (0, 1)]
    return Spec(Net(2 * count, arcs, tuple(range(0, 2 * count, 2))), [(f"x{k}", "output") for k in range(count)], edges,
                "0" * count)


def specs_to_unfold():
    """Specifications with state graphs, with forks, choices and both."""
    specs = [ring("a+ b+ a- b-", kinds="io"), chains_spec((3, 4)), chains_spec((2, 3, 3)), diamonds(3), toggles(3),
             diamonds(2, ways=3), Spec(Net(0, [], ()), [], [], ""), Spec(Net(2, [], (1,)), [], [], "")]
    for seed in range(60):
        specs += [random_machines(seed), random_loop(seed), random_spec(seed)]
        specs.append(translate(circuit_program(seed)))
        try:
            specs.append(translate(random_program(seed)))
        except ClocklessError:
            pass
    return [spec for spec in specs if has_graph(spec)]
