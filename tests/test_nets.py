"""Points 3 to 6: nets, markings, firing, conflict and independence."""

import inspect
import unittest

from clockless.errors import ClocklessError, InvalidNet, NotEnabled, Unsafe
from clockless.nets import Net
from tests.samples import ascending_sets, random_net, ring_net

FORK = Net(3, [((0,), (1, 2)), ((1, 2), (0,))], (0,))


class Making(unittest.TestCase):
    def refuse(self, *parts):
        with self.assertRaises(InvalidNet):
            Net(*parts)

    def test_place_counts(self):
        for count in (-1, 65, 66, 10 ** 59, -(10 ** 59)):
            with self.subTest(count):
                self.refuse(count, [], ())
        for count in (0, 1, 63, 64):
            with self.subTest(count):
                self.assertEqual(Net(count, [], ()).place_count, count)

    def test_transition_counts(self):
        self.assertEqual(len(Net(1, [((0,), ())] * 64, ())), 64)
        self.refuse(1, [((0,), ())] * 65, ())
        self.assertEqual(len(Net(0, [], ())), 0)
        self.assertEqual(len(FORK), 2)

    def test_all_of_64_places_are_places(self):
        every = tuple(range(64))
        net = Net(64, [(every, every)], every)
        self.assertEqual(net.fire(every, 0), every)

    def test_an_empty_preset_is_refused(self):
        self.refuse(2, [((), (0,))], ())
        self.refuse(2, [((0,), (1,)), ((), ())], ())
        self.refuse(0, [((), ())], ())

    def test_an_empty_postset_is_accepted(self):
        net = Net(2, [((0,), ())], (0, 1))
        self.assertEqual(net.postset(0), ())
        self.assertEqual(net.fire((0, 1), 0), (1,))

    def test_wrong_presets(self):
        for places in ((1, 0), (0, 0), (1, 1, 2), (3,), (0, 3), (-1,), (-1, 0), (0, 2, 1)):
            with self.subTest(places):
                self.refuse(3, [(places, ())], ())
                self.refuse(3, [((0,), (1,)), (places, ())], ())

    def test_wrong_postsets(self):
        for places in ((1, 0), (0, 0), (1, 1, 2), (3,), (0, 3), (-1,), (-1, 0), (0, 2, 1)):
            with self.subTest(places):
                self.refuse(3, [((0,), places)], ())
                self.refuse(3, [((0,), (1,)), ((1,), places)], ())

    def test_wrong_markings(self):
        for places in ((1, 0), (0, 0), (1, 1, 2), (3,), (0, 3), (-1,), (-1, 0), (0, 2, 1)):
            with self.subTest(places):
                self.refuse(3, [], places)
        self.refuse(0, [], (0,))

    def test_fields(self):
        net = Net(3, [((0,), (1, 2)), ((1, 2), (0,))], (0,))
        self.assertEqual(net.place_count, 3)
        self.assertEqual(net.transitions, (((0,), (1, 2)), ((1, 2), (0,))))
        self.assertEqual(net.marked, (0,))
        self.assertIsInstance(net.transitions, tuple)
        self.assertIsInstance(net.marked, tuple)

    def test_the_lists_are_copied(self):
        transitions = [((0,), (1,)), ((1,), (0,))]
        net = Net(2, transitions, (0,))
        transitions.append(((0,), ()))
        transitions[0] = ((1,), (1,))
        self.assertEqual(net.transitions, (((0,), (1,)), ((1,), (0,))))
        self.assertEqual(len(net), 2)
        self.assertEqual(net.consumers(0), [0])
        self.assertEqual(net.enabled((0,)), [0])

    def test_the_lists_are_not_changed(self):
        transitions = [((0,), (1,)), ((1,), (0,))]
        Net(2, transitions, (0,))
        self.assertEqual(transitions, [((0,), (1,)), ((1,), (0,))])


class Parts(unittest.TestCase):
    def test_presets_and_postsets(self):
        self.assertEqual(FORK.preset(0), (0,))
        self.assertEqual(FORK.postset(0), (1, 2))
        self.assertEqual(FORK.preset(1), (1, 2))
        self.assertEqual(FORK.postset(1), (0,))

    def test_consumers_and_producers(self):
        net = Net(4, [((0, 1), (2,)), ((1,), (1, 2)), ((1, 2), ())], ())
        self.assertEqual([net.consumers(k) for k in range(4)], [[0], [0, 1, 2], [2], []])
        self.assertEqual([net.producers(k) for k in range(4)], [[], [1], [0, 1], []])

    def test_returned_lists_are_new(self):
        net = Net(2, [((0,), (1,)), ((0, 1), (1,))], (0,))
        for ask in (lambda: net.consumers(0), lambda: net.producers(1), lambda: net.enabled((0, 1))):
            first = ask()
            first.append(7)
            self.assertEqual(ask(), [0, 1])


class Enabled(unittest.TestCase):
    def test_every_place_of_the_preset_is_needed(self):
        net = Net(4, [((0, 2), (1,)), ((2,), (3,)), ((0, 1, 2), ())], ())
        self.assertTrue(net.is_enabled((0, 2), 0) is True)
        self.assertTrue(net.is_enabled((0, 1), 0) is False)
        self.assertFalse(net.is_enabled((2,), 0))
        self.assertFalse(net.is_enabled((), 0))
        self.assertTrue(net.is_enabled((0, 1, 2, 3), 0))
        self.assertEqual(net.enabled((0, 1, 2)), [0, 1, 2])
        self.assertEqual(net.enabled((0, 2)), [0, 1])
        self.assertEqual(net.enabled((0, 1, 3)), [])
        self.assertEqual(net.enabled(()), [])

    def test_unsafe_transitions_are_enabled(self):
        net = Net(2, [((0,), (1,))], (0, 1))
        self.assertTrue(net.is_enabled((0, 1), 0))
        self.assertEqual(net.enabled((0, 1)), [0])

    def test_enabled_is_ascending(self):
        net = Net(3, [((2,), ()), ((0,), ()), ((1, 2), ()), ((0, 1), ())], ())
        self.assertEqual(net.enabled((0, 1, 2)), [0, 1, 2, 3])

    def test_against_the_definition(self):
        for seed in range(60):
            net = random_net(seed)
            for marking in ascending_sets(net.place_count):
                expected = [t for t in range(len(net)) if set(net.preset(t)) <= set(marking)]
                self.assertEqual(net.enabled(marking), expected)
                self.assertEqual([t for t in range(len(net)) if net.is_enabled(marking, t)], expected)


class Firing(unittest.TestCase):
    def test_not_enabled(self):
        with self.assertRaises(NotEnabled) as caught:
            FORK.fire((1,), 1)
        self.assertEqual(caught.exception.transition, 1)

    def test_not_enabled_comes_before_unsafe(self):
        net = Net(3, [((0, 1), (2,))], ())
        with self.assertRaises(NotEnabled):
            net.fire((0, 2), 0)

    def test_the_smallest_doubled_place_is_told(self):
        net = Net(6, [((2,), (0, 1, 3, 4, 5))], ())
        with self.assertRaises(Unsafe) as caught:
            net.fire((1, 2, 3, 5), 0)
        self.assertEqual(caught.exception.sequence, [0])
        self.assertEqual(caught.exception.place, 1)

    def test_the_sequence_of_one_transition(self):
        net = Net(3, [((0,), ()), ((0,), (2,))], ())
        with self.assertRaises(Unsafe) as caught:
            net.fire((0, 2), 1)
        self.assertEqual((caught.exception.sequence, caught.exception.place), ([1], 2))

    def test_a_place_in_preset_and_postset_stays(self):
        net = Net(3, [((0, 1), (1, 2))], ())
        self.assertEqual(net.fire((0, 1), 0), (1, 2))
        with self.assertRaises(Unsafe) as caught:
            net.fire((0, 1, 2), 0)
        self.assertEqual(caught.exception.place, 2)

    def test_the_marking_after_is_ascending(self):
        net = Net(5, [((2,), (0, 4))], ())
        self.assertEqual(net.fire((1, 2, 3), 0), (0, 1, 3, 4))

    def test_against_the_definition(self):
        for seed in range(60):
            net = random_net(seed)
            for marking in ascending_sets(net.place_count):
                for transition in net.enabled(marking):
                    left = set(marking) - set(net.preset(transition))
                    doubled = left & set(net.postset(transition))
                    if doubled:
                        with self.assertRaises(Unsafe) as caught:
                            net.fire(marking, transition)
                        self.assertEqual(caught.exception.place, min(doubled))
                    else:
                        expected = tuple(sorted(left | set(net.postset(transition))))
                        self.assertEqual(net.fire(marking, transition), expected)


class Sequences(unittest.TestCase):
    def test_the_empty_sequence_changes_nothing(self):
        self.assertEqual(FORK.fire_all([]), (0,))
        self.assertEqual(FORK.fire_all([], marking=(1, 2)), (1, 2))

    def test_from_the_initial_marking(self):
        self.assertEqual(FORK.fire_all([0]), (1, 2))
        self.assertEqual(FORK.fire_all([0, 1, 0, 1]), (0,))

    def test_from_a_given_marking(self):
        self.assertEqual(FORK.fire_all([1], marking=(1, 2)), (0,))
        with self.assertRaises(NotEnabled):
            FORK.fire_all([0], marking=())
        self.assertEqual(FORK.fire_all([0], marking=None), (1, 2))

    def test_the_first_that_cannot_be_fired_decides(self):
        net = Net(3, [((0,), (1,)), ((1,), (0, 2)), ((2,), ())], (0,))
        with self.assertRaises(Unsafe) as caught:
            net.fire_all([0, 1, 0, 1, 2, 2])
        self.assertEqual(caught.exception.sequence, [0, 1, 0, 1])
        self.assertEqual(caught.exception.place, 2)
        with self.assertRaises(NotEnabled) as caught:
            net.fire_all([0, 2, 1, 0, 1, 0, 1])
        self.assertEqual(caught.exception.transition, 2)

    def test_the_sequence_told_starts_at_the_given_marking(self):
        net = Net(2, [((0,), (1,))], ())
        with self.assertRaises(Unsafe) as caught:
            net.fire_all([0], marking=(0, 1))
        self.assertEqual(caught.exception.sequence, [0])

    def test_the_sequence_is_not_changed(self):
        sequence = [0, 1, 0]
        FORK.fire_all(sequence)
        list(FORK.markings_along(sequence))
        self.assertEqual(sequence, [0, 1, 0])

    def test_a_long_sequence(self):
        self.assertEqual(ring_net(64).fire_all(list(range(64)) * 20), (0,))

    def test_the_marking_is_passed_by_keyword(self):
        with self.assertRaises(TypeError):
            FORK.fire_all([], (0,))


class MarkingsAlong(unittest.TestCase):
    def test_is_a_generator(self):
        self.assertTrue(inspect.isgenerator(FORK.markings_along([])))

    def test_all_markings(self):
        self.assertEqual(list(FORK.markings_along([])), [(0,)])
        self.assertEqual(list(FORK.markings_along([0, 1, 0])), [(0,), (1, 2), (0,), (1, 2)])

    def test_up_to_a_transition_that_is_not_enabled(self):
        markings = FORK.markings_along([0, 0, 1])
        self.assertEqual([next(markings), next(markings)], [(0,), (1, 2)])
        with self.assertRaises(NotEnabled) as caught:
            next(markings)
        self.assertEqual(caught.exception.transition, 0)

    def test_up_to_an_unsafe_transition(self):
        net = Net(2, [((0,), (0, 1))], (0,))
        markings = net.markings_along([0, 0, 0])
        self.assertEqual([next(markings), next(markings)], [(0,), (0, 1)])
        with self.assertRaises(Unsafe) as caught:
            next(markings)
        self.assertEqual((caught.exception.sequence, caught.exception.place), ([0, 0], 1))

    def test_a_list_that_is_changed_on_the_way(self):
        sequence = [0, 1]
        markings = FORK.markings_along(sequence)
        next(markings)
        sequence.clear()
        self.assertEqual(list(markings), [(1, 2), (0,)])

    def test_it_agrees_with_fire_all(self):
        for seed in range(40):
            net = random_net(seed)
            for sequence in ([0], [1, 0], [0, 0, 1], [2, 1, 0]):
                if max(sequence) >= len(net):
                    continue
                try:
                    last = net.fire_all(sequence)
                except ClocklessError as error:
                    with self.assertRaises(error.__class__) as caught:
                        list(net.markings_along(sequence))
                    self.assertEqual(vars(caught.exception), vars(error))
                else:
                    self.assertEqual(list(net.markings_along(sequence))[-1], last)


class Pairs(unittest.TestCase):
    def test_conflict(self):
        net = Net(4, [((0, 1), (2,)), ((1,), (3,)), ((2,), (0,)), ((3,), ())], ())
        self.assertTrue(net.conflict(0, 1) is True)
        self.assertTrue(net.conflict(1, 0))
        self.assertTrue(net.conflict(0, 2) is False)
        self.assertFalse(net.conflict(1, 3))

    def test_a_common_place_of_postsets_is_no_conflict(self):
        net = Net(3, [((0,), (2,)), ((1,), (2,))], ())
        self.assertFalse(net.conflict(0, 1))
        self.assertFalse(net.independent(0, 1))

    def test_a_transition_and_itself(self):
        net = Net(2, [((0,), ()), ((0, 1), (0,))], ())
        for transition in (0, 1):
            self.assertTrue(net.conflict(transition, transition))
            self.assertFalse(net.independent(transition, transition))

    def test_independent(self):
        net = Net(5, [((0,), (1,)), ((2,), (3,)), ((1,), (4,)), ((4,), (0,)), ((3,), ()), ((4,), ())], ())
        self.assertTrue(net.independent(0, 1) is True)
        self.assertTrue(net.independent(0, 2) is False)
        self.assertFalse(net.independent(2, 0))
        self.assertFalse(net.independent(0, 3))
        self.assertFalse(net.independent(3, 0))
        self.assertFalse(net.independent(1, 4))
        self.assertTrue(net.independent(0, 4))
        self.assertTrue(net.independent(4, 5))
        self.assertFalse(net.independent(3, 5))

    def test_transitions_with_an_empty_postset(self):
        net = Net(2, [((0,), ()), ((1,), ()), ((0, 1), ())], ())
        self.assertTrue(net.independent(0, 1))
        self.assertFalse(net.conflict(0, 1))
        self.assertFalse(net.independent(0, 2))
        self.assertTrue(net.conflict(0, 2))

    def test_independent_transitions_fire_in_both_orders(self):
        for seed in range(80):
            net = random_net(seed)
            for marking in ascending_sets(net.place_count):
                safe = [t for t in net.enabled(marking) if self.is_safe(net, marking, t)]
                for first in safe:
                    for second in safe:
                        if net.independent(first, second):
                            self.assertEqual(net.fire_all([first, second], marking=marking),
                                             net.fire_all([second, first], marking=marking))

    def is_safe(self, net, marking, transition):
        try:
            net.fire(marking, transition)
        except Unsafe:
            return False
        return True

    def test_against_the_definition(self):
        for seed in range(80):
            net = random_net(seed)
            for first in range(len(net)):
                for second in range(len(net)):
                    ones = set(net.preset(first)) | set(net.postset(first))
                    others = set(net.preset(second)) | set(net.postset(second))
                    self.assertEqual(net.conflict(first, second),
                                     bool(set(net.preset(first)) & set(net.preset(second))))
                    self.assertEqual(net.independent(first, second), not ones & others)
