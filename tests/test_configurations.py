"""Points 78, 79 and 82: configurations, cuts, states, relations, and what a prefix shows of the state graph."""

import itertools
import unittest

from clockless.configurations import (configurations, cut, is_configuration, linearised, relation, state_of, states_of)
from clockless.errors import TooLarge
from clockless.graphs import explore
from clockless.prefixes import unfold
from clockless.spectext import parse_spec
from tests.prefix_reference import Reference, diamonds, specs_to_unfold, toggles
from tests.samples import HANDSHAKE, chains_spec
from tests.test_prefixes import FORK, machine_spec, spec_of

# One choice between a+ and b+, and c+ beside it; after a+ and c+ there is d+.
MIXED = ["signal a input 0", "signal b input 0", "signal c input 0", "signal d output 0", "places 6 0 1", "a+ 0 to 2",
         "b+ 0 to 3", "c+ 1 to 4", "d+ 2 4 to 5"]


def small_prefixes():
    """Prefixes of few events with what the words of the points say of them."""
    for spec in specs_to_unfold():
        prefix = unfold(spec, limit=10000)
        if len(prefix) <= 11:
            yield prefix, Reference(spec)


def subsets(count):
    return [chosen for size in range(count + 1) for chosen in itertools.combinations(range(count), size)]


class Configurations(unittest.TestCase):
    def test_a_past_that_is_not_whole(self):
        prefix = unfold(parse_spec(HANDSHAKE))
        found = [events for events in subsets(4) if is_configuration(prefix, events)]
        self.assertEqual(found, [(), (0,), (0, 1), (0, 1, 2), (0, 1, 2, 3)])

    def test_a_condition_that_is_consumed_twice(self):
        # Events: a+, b+, c+ and then d+.
        prefix = unfold(spec_of(*MIXED))
        found = [events for events in subsets(4) if is_configuration(prefix, events)]
        self.assertEqual(found, [(), (0,), (1,), (2,), (0, 2), (1, 2), (0, 2, 3)])

    def test_cuts_and_states(self):
        prefix = unfold(spec_of(*MIXED))
        self.assertEqual(prefix.conditions, [(0, None), (1, None), (2, 0), (3, 1), (4, 2), (5, 3)])
        for events, conditions, state in (((), (0, 1), ((0, 1), "0000")), ((0,), (1, 2), ((1, 2), "1000")),
                                          ((1,), (1, 3), ((1, 3), "0100")), ((2,), (0, 4), ((0, 4), "0010")),
                                          ((0, 2), (2, 4), ((2, 4), "1010")), ((1, 2), (3, 4), ((3, 4), "0110")),
                                          ((0, 2, 3), (5,), ((5,), "1011"))):
            self.assertEqual(cut(prefix, events), conditions)
            self.assertEqual(state_of(prefix, events), state)

    def test_cuts_are_ascending_and_so_are_markings(self):
        prefix = unfold(spec_of("signal a input 0", "signal b input 0", "places 4 2 3", "a+ 2 to 1", "b+ 3 to 0"))
        self.assertEqual(cut(prefix, (0,)), (1, 2))
        self.assertEqual(state_of(prefix, (0,)), ((1, 3), "10"))
        self.assertEqual(cut(prefix, (0, 1)), (2, 3))
        self.assertEqual(state_of(prefix, (0, 1)), ((0, 1), "11"))

    def test_codes_count_edges(self):
        prefix = unfold(machine_spec(5, [(0, 1, "a-"), (1, 2, "b+"), (2, 3, "a+"), (3, 4, "a-")], start="10"))
        self.assertEqual([state_of(prefix, tuple(range(k)))[1] for k in range(5)], ["10", "00", "01", "11", "01"])

    def test_cutoffs_may_be_in_configurations(self):
        prefix = unfold(parse_spec(HANDSHAKE))
        self.assertTrue(is_configuration(prefix, (0, 1, 2, 3)))
        self.assertEqual(cut(prefix, (0, 1, 2, 3)), (4,))
        self.assertEqual(state_of(prefix, (0, 1, 2, 3)), ((0,), "00"))

    def test_nothing_happens(self):
        prefix = unfold(spec_of("signal a input 1", "places 3 0 2"))
        self.assertEqual((is_configuration(prefix, ()), cut(prefix, ()), state_of(prefix, ())),
                         (True, (0, 1), ((0, 2), "1")))
        self.assertEqual((configurations(prefix), states_of(prefix), linearised(prefix, ())),
                         ([()], [((0, 2), "1")], []))

    def test_pasts_are_configurations(self):
        for spec in specs_to_unfold():
            prefix = unfold(spec, limit=10000)
            for event in range(min(len(prefix), 40)):
                self.assertTrue(is_configuration(prefix, prefix.past(event)))

    def test_against_the_words_of_the_points(self):
        compared = 0
        for prefix, expected in small_prefixes():
            for events in subsets(len(prefix)):
                self.assertEqual(is_configuration(prefix, events), expected.is_configuration(events))
                if expected.is_configuration(events):
                    self.assertEqual(cut(prefix, events), tuple(expected.cut(events)))
                    self.assertEqual(state_of(prefix, events), expected.state(events))
                    compared += 1
        self.assertGreater(compared, 400)


class Relations(unittest.TestCase):
    def table(self, prefix):
        count = len(prefix)
        return {(one, other): relation(prefix, one, other) for one in range(count) for other in range(count)
                if one != other}

    def test_the_four(self):
        # a+ is 0, b+ is 1, c+ is 2, d+ is 3.
        self.assertEqual(self.table(unfold(spec_of(*MIXED))), {
            (0, 1): "conflict", (1, 0): "conflict", (0, 2): "concurrent", (2, 0): "concurrent", (0, 3): "precedes",
            (3, 0): "follows", (1, 2): "concurrent", (2, 1): "concurrent", (1, 3): "conflict", (3, 1): "conflict",
            (2, 3): "precedes", (3, 2): "follows"})

    def test_far_apart(self):
        chain = [(k, k + 1, "ab"[k % 2] + "+-"[k // 2 % 2]) for k in range(20)]
        prefix = unfold(machine_spec(21, chain))
        self.assertEqual((relation(prefix, 0, 19), relation(prefix, 19, 0), relation(prefix, 3, 17)),
                         ("precedes", "follows", "precedes"))
        # Two ways that differ at the beginning: their ends are in conflict.
        arcs = [(0, 1, "a+"), (0, 11, "b+")]
        for first, name in ((1, "b"), (11, "a")):
            arcs += [(first + k, first + k + 1, name + "+-"[k % 2]) for k in range(9)]
        prefix = unfold(machine_spec(21, arcs))
        last = {}
        for event in range(len(prefix)):
            last[prefix.past(event)[0]] = event
        one, other = last.values()
        self.assertGreater(min(one, other), 15)
        self.assertEqual((relation(prefix, one, other), relation(prefix, other, one)), ("conflict", "conflict"))
        self.assertEqual((relation(prefix, 0, other), relation(prefix, one, 1)), ("conflict", "conflict"))
        prefix = unfold(chains_spec((9, 9)))
        self.assertEqual(relation(prefix, 14, 15), "concurrent")
        self.assertEqual(relation(prefix, 0, 15), "concurrent")

    def test_pasts_that_join(self):
        """Two branches of a fork, and behind them one event that both precede."""
        prefix = unfold(spec_of(*FORK))
        self.assertEqual(self.table(prefix), {
            (0, 1): "concurrent", (1, 0): "concurrent", (0, 2): "precedes", (2, 0): "follows", (1, 2): "precedes",
            (2, 1): "follows"})
        spec = spec_of("signal a input 0", "signal b input 0", "signal c input 0", "signal d input 0", "places 8 0",
                       "a+ 0 to 1 2", "b+ 1 to 3", "c+ 2 to 4", "d+ 3 4 to 5 6", "a- 5 to 7", "b- 6 to")
        prefix = unfold(spec)
        self.assertEqual(relation(prefix, 4, 5), "concurrent")
        self.assertEqual([relation(prefix, event, 5) for event in range(4)], ["precedes"] * 4)
        self.assertEqual([relation(prefix, 4, event) for event in range(4)], ["follows"] * 4)
        self.assertEqual(relation(prefix, 1, 2), "concurrent")

    def test_exactly_one_holds(self):
        told = {}
        for prefix, expected in small_prefixes():
            for (one, other), name in self.table(prefix).items():
                pasts = [{*expected.past(expected.events[k][1]), k} for k in (one, other)]
                holding = {"precedes": one in pasts[1], "follows": other in pasts[0],
                           "conflict": not expected.is_configuration(pasts[0] | pasts[1])}
                holding["concurrent"] = not any(holding.values())
                self.assertEqual([word for word in holding if holding[word]], [name])
                told[name] = told.get(name, 0) + 1
        self.assertGreater(min(told.values()), 40)


class Listed(unittest.TestCase):
    def test_in_their_order(self):
        self.assertEqual(configurations(unfold(spec_of(*MIXED))),
                         [(), (0,), (1,), (2,), (0, 2), (1, 2), (0, 2, 3)])
        self.assertEqual(configurations(unfold(parse_spec(HANDSHAKE))), [(), (0,), (0, 1), (0, 1, 2)])
        self.assertEqual(configurations(unfold(diamonds(2))), [(), (0,), (1,), (0, 2), (0, 4), (1, 3), (1, 5)])

    def test_without_cutoffs(self):
        prefix = unfold(toggles(2))
        self.assertEqual(configurations(prefix), [(), (0,), (1,), (0, 1)])
        prefix = unfold(toggles(3))
        self.assertEqual(configurations(prefix), [(), (0,), (1,), (2,), (0, 1), (0, 2), (1, 2), (0, 1, 2)])

    def test_against_the_words_of_the_points(self):
        for prefix, expected in small_prefixes():
            found = [events for events in subsets(len(prefix)) if expected.is_configuration(events)
                     and not any(expected.cutoffs[event] for event in events)]
            self.assertEqual(configurations(prefix), found)
            self.assertEqual(states_of(prefix), sorted({expected.state(events) for events in found}))

    def test_lists_are_new(self):
        prefix = unfold(parse_spec(HANDSHAKE))
        for ask in (configurations, states_of):
            expected = list(ask(prefix))
            ask(prefix).clear()
            self.assertEqual(ask(prefix), expected)
        linearised(prefix, (0, 1)).clear()
        self.assertEqual(linearised(prefix, (0, 1)), [0, 1])

    def refused(self, prefix, **options):
        told = []
        for ask in (configurations, states_of):
            try:
                ask(prefix, **options)
                told.append(None)
            except TooLarge as error:
                told.append(error.limit)
        self.assertEqual(told[0], told[1])
        return told[0]

    def test_the_limit(self):
        for spec, count in ((parse_spec(HANDSHAKE), 4), (toggles(4), 16), (diamonds(3), 15), (chains_spec((4, 5)), 20),
                            (spec_of("places 1 0"), 1)):
            prefix = unfold(spec)
            self.assertEqual(len(configurations(prefix, limit=count)), count)
            self.assertIsNone(self.refused(prefix, limit=count))
            for limit in {1, count - 1} - {0, count}:
                self.assertEqual(self.refused(prefix, limit=limit), limit)

    def test_without_a_limit(self):
        self.assertIsNone(self.refused(unfold(chains_spec((10, 20, 25)))))
        self.assertEqual(self.refused(unfold(chains_spec((13, 17, 23)))), 5000)
        self.assertEqual(len(configurations(unfold(chains_spec((10, 20, 25))))), 5000)
        # The limit is one of configurations, not of states.
        many = unfold(diamonds(12), limit=10000)
        self.assertEqual(self.refused(many), 5000)
        self.assertEqual(len(states_of(many, limit=8191)), 13)


class Linearised(unittest.TestCase):
    def test_the_order_of_the_events(self):
        prefix = unfold(spec_of("signal a input 0", "signal b input 0", "places 3 0 2", "b+ 1 to", "a+ 0 to 1"))
        self.assertEqual(linearised(prefix, (0, 1)), [1, 0])

    def test_fired_one_after_another(self):
        for spec in specs_to_unfold():
            prefix = unfold(spec, limit=10000)
            if len(prefix) > 60:
                continue
            for events in configurations(prefix, limit=20000)[:300]:
                marking, code = state_of(prefix, events)
                self.assertEqual(spec.net.fire_all(linearised(prefix, events)), marking)
            for event in range(len(prefix)):
                events = prefix.past(event)
                self.assertEqual(spec.net.fire_all(linearised(prefix, events)), state_of(prefix, events)[0])


class Verdicts(unittest.TestCase):
    """Point 82: a prefix shows the states of the graph, and the transitions that are enabled there."""

    def test_states(self):
        for spec in specs_to_unfold():
            prefix = unfold(spec, limit=10000)
            self.assertEqual(states_of(prefix, limit=100000), sorted(explore(spec)))

    def test_enabled_transitions(self):
        for spec in specs_to_unfold():
            graph, prefix = explore(spec), unfold(spec, limit=10000)
            listed = configurations(prefix, limit=100000)
            if len(listed) > 400:
                continue
            shown = {}
            for events in listed:
                there = set(cut(prefix, events))
                shown.setdefault(state_of(prefix, events), set()).update(
                    prefix.transition(event) for event in range(len(prefix))
                    if event not in events and set(prefix.consumed(event)) <= there)
            expected = {graph.state_at(*state): transitions for state, transitions in shown.items()}
            self.assertEqual(expected, {state: {transition for transition, _ in graph.arcs(state)}
                                        for state in range(len(graph))})
