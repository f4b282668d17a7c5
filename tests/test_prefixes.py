"""Points 77, 80 and 81: conditions, events, pasts, extensions, and how a prefix is built."""

import unittest

from clockless.errors import TooLarge
from clockless.graphs import explore
from clockless.nets import Net
from clockless.prefixes import Prefix, unfold
from clockless.specs import Spec
from clockless.spectext import parse_spec
from tests.prefix_reference import Reference, diamonds, specs_to_unfold, toggles
from tests.samples import HANDSHAKE, chains_spec


def spec_of(*lines):
    return parse_spec("\n".join(lines))


def events_of(prefix):
    return [(prefix.transition(event), prefix.consumed(event)) for event in range(len(prefix))]


def cutoffs_of(prefix):
    return [event for event in range(len(prefix)) if prefix.is_cutoff(event)]


def machine_spec(places, arcs, start="00"):
    """One token that walks along arcs, each with the text of its edge; the signals are a and b."""
    edges = [("ab".index(text[0]), int(text[1] == "+")) for _, _, text in arcs]
    net = Net(places, [((one,), (other,)) for one, other, _ in arcs], (0,))
    return Spec(net, [("a", "input"), ("b", "input")], edges, start)


# a and b rise side by side, then c rises.
FORK = ["signal a input 0", "signal b input 0", "signal c output 0", "places 5 0 1", "a+ 0 to 2", "b+ 1 to 3",
        "c+ 2 3 to 4"]


class Parts(unittest.TestCase):
    def test_a_ring(self):
        prefix = unfold(parse_spec(HANDSHAKE))
        self.assertIsInstance(prefix, Prefix)
        self.assertEqual(prefix.spec, parse_spec(HANDSHAKE))
        self.assertEqual(len(prefix), 4)
        self.assertEqual(prefix.conditions, [(0, None), (1, 0), (2, 1), (3, 2), (0, 3)])
        self.assertEqual(events_of(prefix), [(0, (0,)), (1, (1,)), (2, (2,)), (3, (3,))])
        self.assertEqual([prefix.produced(event) for event in range(4)], [(1,), (2,), (3,), (4,)])
        self.assertEqual([prefix.past(event) for event in range(4)], [(0,), (0, 1), (0, 1, 2), (0, 1, 2, 3)])
        self.assertEqual([prefix.is_cutoff(event) for event in range(4)], [False, False, False, True])

    def test_side_by_side(self):
        prefix = unfold(spec_of(*FORK))
        self.assertEqual(prefix.conditions, [(0, None), (1, None), (2, 0), (3, 1), (4, 2)])
        self.assertEqual(events_of(prefix), [(0, (0,)), (1, (1,)), (2, (2, 3))])
        self.assertEqual([prefix.past(event) for event in range(3)], [(0,), (1,), (0, 1, 2)])
        self.assertEqual(cutoffs_of(prefix), [])

    def test_an_empty_postset(self):
        prefix = unfold(spec_of("signal a input 0", "signal b input 0", "places 2 0 1", "a+ 0 to", "b+ 1 to"))
        self.assertEqual(prefix.conditions, [(0, None), (1, None)])
        self.assertEqual([prefix.produced(event) for event in range(2)], [(), ()])

    def test_conditions_of_a_postset_are_in_ascending_order(self):
        prefix = unfold(spec_of("signal a input 0", "places 4 1 3", "a+ 1 3 to 0 2 3"))
        self.assertEqual(prefix.conditions, [(1, None), (3, None), (0, 0), (2, 0), (3, 0)])
        self.assertEqual(prefix.produced(0), (2, 3, 4))

    def test_a_place_in_preset_and_postset(self):
        prefix = unfold(spec_of("signal a input 0", "signal b input 0", "places 3 0 1 2", "a+ 0 1 to 1", "b+ 1 2 to 1"))
        self.assertEqual(events_of(prefix), [(0, (0, 1)), (1, (1, 2)), (0, (0, 4)), (1, (2, 3))])
        self.assertEqual(prefix.conditions, [(0, None), (1, None), (2, None), (1, 0), (1, 1), (1, 2), (1, 3)])

    def test_nothing_happens(self):
        for spec in (Spec(Net(0, [], ()), [], [], ""), Spec(Net(3, [], (0, 2)), [], [], "")):
            prefix = unfold(spec)
            self.assertEqual((len(prefix), prefix.conditions), (0, [(place, None) for place in spec.net.marked]))
            self.assertEqual(len(unfold(spec, limit=1)), 0)

    def test_lists_are_new(self):
        prefix = unfold(parse_spec(HANDSHAKE))
        asked = prefix.conditions
        asked[0] = None
        asked.append("later")
        self.assertEqual(prefix.conditions, [(0, None), (1, 0), (2, 1), (3, 2), (0, 3)])
        self.assertEqual([type(value) for value in (prefix.past(0), prefix.consumed(0), prefix.produced(0))], [tuple] * 3)

    def test_the_specification_stays_as_it_is(self):
        spec = parse_spec(HANDSHAKE)
        unfold(spec)
        self.assertEqual(spec, parse_spec(HANDSHAKE))


class Order(unittest.TestCase):
    def test_by_size(self):
        """The transition with the smaller number waits until its past is there."""
        prefix = unfold(spec_of("signal a input 0", "signal b input 0", "signal c input 0", "places 4 0 3",
                                "a+ 1 to 2", "b+ 0 to 1", "c+ 3 to"))
        self.assertEqual(events_of(prefix), [(1, (0,)), (2, (1,)), (0, (2,))])

    def test_by_transition(self):
        prefix = unfold(spec_of("signal a input 0", "signal b input 0", "signal c input 0", "places 3 0 1 2",
                                "c+ 0 to", "a+ 2 to", "b+ 1 to"))
        self.assertEqual(events_of(prefix), [(0, (0,)), (1, (2,)), (2, (1,))])

    def test_by_conditions(self):
        # Two ways to place 1, which b+ leaves; their states differ by the place that is left over.
        prefix = unfold(spec_of("signal a input 0", "signal b input 0", "places 5 0", "a+ 0 to 1 2", "a+/2 0 to 1 3",
                                "b+ 1 to 4"))
        self.assertEqual(events_of(prefix), [(0, (0,)), (1, (0,)), (2, (1,)), (2, (3,))])

    def test_by_transition_before_conditions(self):
        prefix = unfold(spec_of("signal a input 0", "signal b input 0", "places 6 0 1", "a+ 1 to 2", "b+ 0 to 3",
                                "b- 3 to 5", "a- 2 to 4"))
        self.assertEqual(events_of(prefix), [(0, (1,)), (1, (0,)), (2, (3,)), (3, (2,))])

    def test_conditions_that_are_least_from_the_left(self):
        # Each of two transitions takes one of two conditions of place 2 or 3 with one of the other side.
        spec = spec_of("signal a input 0", "signal b input 0", "signal c output 0", "places 5 0 1", "a+ 0 to 2",
                       "a+/2 0 to 2 4", "b+ 1 to 3", "c+ 2 3 to")
        prefix = unfold(spec)
        self.assertEqual(prefix.conditions[2:6], [(2, 0), (2, 1), (4, 1), (3, 2)])
        self.assertEqual(events_of(prefix)[3:], [(3, (2, 5)), (3, (3, 5))])

    def test_sizes_count_shared_events_once(self):
        spec = spec_of("signal a input 0", "signal b input 0", "signal c input 0", "signal d input 0", "places 7 0",
                       "a+ 0 to 1 2", "b+ 1 to 3 4", "c+ 2 3 to 5", "d+ 4 to 6")
        prefix = unfold(spec)
        self.assertEqual([(prefix.transition(event), len(prefix.past(event))) for event in range(4)],
                         [(0, 1), (1, 2), (2, 3), (3, 3)])

    def test_against_the_words_of_the_points(self):
        compared = 0
        for spec in specs_to_unfold():
            prefix = unfold(spec, limit=10000)
            if len(prefix) > 30:
                continue
            expected = Reference(spec)
            self.assertEqual(prefix.conditions, expected.conditions)
            self.assertEqual(events_of(prefix), expected.events)
            self.assertEqual([prefix.is_cutoff(event) for event in range(len(prefix))], expected.cutoffs)
            for event, (_, consumed) in enumerate(expected.events):
                self.assertEqual(prefix.past(event), tuple(sorted({*expected.past(consumed), event})))
                self.assertEqual(prefix.produced(event), tuple(
                    k for k, (_, maker) in enumerate(expected.conditions) if maker == event))
            compared += len(prefix) > 4
        self.assertGreater(compared, 60)


class Cutoffs(unittest.TestCase):
    def test_the_initial_state(self):
        prefix = unfold(machine_spec(2, [(0, 1, "a+"), (1, 0, "a-"), (0, 1, "a+")]))
        self.assertEqual(events_of(prefix), [(0, (0,)), (2, (0,)), (1, (1,)), (1, (2,))])
        self.assertEqual(cutoffs_of(prefix), [2, 3])

    def test_the_code_alone_is_not_enough(self):
        spec = machine_spec(5, [(0, 1, "a+"), (1, 2, "b+"), (2, 3, "a-"), (3, 4, "b-"), (4, 1, "a+")])
        # After b- the code is the initial one, but the marking is not; the second a+ leads to where the first one did.
        self.assertEqual(cutoffs_of(unfold(spec)), [4])

    def test_the_marking_alone_is_not_enough(self):
        spec = spec_of("signal a input 0", "signal b input 0", "places 3 0 1", "a+ 1 to", "b+ 0 to 2", "b- 2 to 0")
        self.assertEqual([unfold(spec).transition(event) for event in range(3)], [0, 1, 2])
        self.assertEqual(cutoffs_of(unfold(spec)), [2])
        # A long way and a short way to place 2, with different codes.
        spec = machine_spec(4, [(0, 2, "a+"), (0, 1, "b+"), (1, 2, "a+"), (2, 3, "a-")])
        self.assertEqual(cutoffs_of(unfold(spec)), [])

    def test_an_earlier_event_with_a_smaller_past(self):
        # A short way and a long way to place 2 with the code 11.
        spec = machine_spec(5, [(0, 1, "a+"), (1, 2, "b+"), (0, 3, "b+"), (3, 4, "a+")])
        self.assertEqual(cutoffs_of(unfold(spec)), [])
        spec = machine_spec(6, [(0, 2, "a+"), (0, 1, "b+"), (1, 3, "a+"), (3, 2, "b-"), (2, 4, "b+")])
        prefix = unfold(spec)
        self.assertEqual([prefix.transition(event) for event in range(len(prefix))], [0, 1, 2, 4, 3])
        self.assertEqual(cutoffs_of(prefix), [4])
        # Nothing follows the cut-off, so b+ happens once from place 2.

    def test_an_earlier_event_whose_past_is_not_smaller(self):
        spec = machine_spec(3, [(0, 1, "a+"), (0, 1, "a+"), (1, 2, "b+")])
        prefix = unfold(spec)
        self.assertEqual(events_of(prefix), [(0, (0,)), (1, (0,)), (2, (1,)), (2, (2,))])
        self.assertEqual(cutoffs_of(prefix), [])

    def test_an_earlier_event_that_is_a_cutoff_itself(self):
        spec = machine_spec(2, [(0, 1, "a+"), (1, 0, "a-"), (1, 0, "a-")])
        prefix = unfold(spec)
        self.assertEqual(events_of(prefix), [(0, (0,)), (1, (1,)), (2, (1,))])
        self.assertEqual(cutoffs_of(prefix), [1, 2])

    def test_conditions_of_cutoffs_are_not_used(self):
        prefix = unfold(toggles(2))
        self.assertEqual(events_of(prefix), [(0, (0,)), (2, (1,)), (1, (2,)), (3, (3,))])
        self.assertEqual(cutoffs_of(prefix), [2, 3])
        self.assertEqual(prefix.conditions, [(0, None), (2, None), (1, 0), (3, 1), (0, 2), (2, 3)])

    def test_side_by_side_with_a_cutoff(self):
        """An extension that takes one condition of a cut-off and another one is not added."""
        spec = spec_of("signal a input 0", "signal b input 0", "signal c input 0", "places 5 0 2", "a+ 0 to 1",
                       "a- 1 to 0", "b+ 2 to 3", "c+ 0 3 to 4")
        prefix = unfold(spec)
        self.assertEqual(events_of(prefix), [(0, (0,)), (2, (1,)), (1, (2,)), (3, (0, 3))])
        self.assertEqual(cutoffs_of(prefix), [2])


class Limits(unittest.TestCase):
    def refused(self, spec, **options):
        try:
            unfold(spec, **options)
        except TooLarge as error:
            return error.limit
        return None

    def test_met_exactly(self):
        for spec, count in ((parse_spec(HANDSHAKE), 4), (diamonds(4), 30), (toggles(3), 6), (chains_spec((5, 3)), 6)):
            self.assertEqual(len(unfold(spec, limit=count)), count)
            self.assertIsNone(self.refused(spec, limit=count + 1))
            for limit in (1, count - 1):
                self.assertEqual(self.refused(spec, limit=limit), limit)

    def test_cutoffs_count(self):
        self.assertEqual(self.refused(machine_spec(2, [(0, 1, "a+"), (1, 0, "a-")]), limit=1), 1)
        self.assertIsNone(self.refused(machine_spec(2, [(0, 1, "a+"), (1, 0, "a-")]), limit=2))

    def test_without_a_limit(self):
        self.assertEqual(len(unfold(diamonds(7))), 254)
        self.assertEqual(len(unfold(diamonds(8), limit=510)), 510)
        self.assertEqual(self.refused(diamonds(8)), 500)
        self.assertEqual(self.refused(diamonds(9)), 500)
        self.assertEqual(len(unfold(self.levels(500))), 500)
        self.assertEqual(self.refused(self.levels(501)), 500)

    def test_many_extensions_at_once(self):
        """Each signal has several ways to rise, and one event waits for one way of each."""
        for signals, ways, count in ((2, 2, 8), (3, 3, 36), (3, 7, 364)):
            self.assertEqual(len(unfold(self.joined(signals, ways), limit=count)), count)
            self.assertEqual(self.refused(self.joined(signals, ways), limit=count - 1), count - 1)
        self.assertEqual(self.refused(self.joined(7, 9)), 500)
        self.assertEqual(self.refused(self.joined(7, 9), limit=10 ** 4), 10 ** 4)

    def joined(self, signals, ways):
        arcs = [((k,), (signals + k,)) for k in range(signals) for _ in range(ways)]
        arcs.append((tuple(range(signals, 2 * signals)), ()))
        edges = [(k, 1) for k in range(signals) for _ in range(ways)] + [(signals, 1)]
        names = [(f"x{k}", "input") for k in range(signals + 1)]
        return Spec(Net(2 * signals, arcs, tuple(range(signals))), names, edges, "0" * (signals + 1))

    def levels(self, count):
        """Three levels of equal ways, and single events beside them."""
        for one in range(1, 12):
            for two in range(1, 12):
                for three in range(1, 12):
                    left = count - one * (1 + two * (1 + three))
                    if 0 <= left and one + two + three + left <= 64:
                        arcs = ([((0,), (1,))] * one + [((1,), (2,))] * two + [((2,), (3,))] * three
                                + [((4,), (5,))] * left)
                        edges = [(0, 1)] * one + [(1, 1)] * two + [(2, 1)] * three + [(3, 1)] * left
                        signals = [(name, "input") for name in "abcd"]
                        return Spec(Net(6, arcs, (0, 4)), signals, edges, "0000")
        raise AssertionError("no such specification")


class Finite(unittest.TestCase):
    def test_chains_are_no_longer_than_the_graph(self):
        for spec in specs_to_unfold():
            prefix = unfold(spec, limit=10000)
            longest = []
            for event in range(len(prefix)):
                before = [longest[maker] for maker in (prefix.conditions[k][1] for k in prefix.consumed(event))
                          if maker is not None]
                longest.append(1 + max(before, default=0))
            self.assertLessEqual(max(longest, default=0), len(explore(spec)))
