"""Points 7 and 8: weightings, traps and siphons."""

import unittest

from clockless.nets import Net
from clockless.weights import is_balanced, is_siphon, is_trap, largest_siphon, largest_trap, weight
from tests.samples import ascending_sets, random_net


def traps(net):
    """All traps of the net, as the document defines them."""
    return [places for places in ascending_sets(net.place_count)
            if all(set(post) & set(places) for pre, post in net.transitions if set(pre) & set(places))]


def siphons(net):
    """All siphons of the net, as the document defines them."""
    return [places for places in ascending_sets(net.place_count)
            if all(set(pre) & set(places) for pre, post in net.transitions if set(post) & set(places))]


class Weights(unittest.TestCase):
    def test_weight(self):
        self.assertEqual(weight((), [1, 2, 3]), 0)
        self.assertEqual(weight((0, 2), [1, 2, 3]), 4)
        self.assertEqual(weight((0, 1, 2), [-1, -20, 3]), -18)
        self.assertEqual(weight((1,), [0, 10 ** 59]), 10 ** 59)
        self.assertEqual(weight((), []), 0)

    def test_balanced(self):
        net = Net(3, [((0,), (1, 2)), ((1, 2), (0,))], (0,))
        self.assertTrue(is_balanced(net, [2, 1, 1]) is True)
        self.assertTrue(is_balanced(net, [1, 1, 1]) is False)
        self.assertTrue(is_balanced(net, [0, 0, 0]))
        self.assertTrue(is_balanced(net, [-1, 2, -3]))
        self.assertFalse(is_balanced(net, [-1, 2, 3]))

    def test_every_transition_must_be_balanced(self):
        net = Net(3, [((0,), (1,)), ((1,), (2,))], ())
        self.assertFalse(is_balanced(net, [1, 1, 2]))
        self.assertFalse(is_balanced(net, [2, 1, 1]))
        self.assertTrue(is_balanced(net, [-5, -5, -5]))

    def test_an_empty_postset_weighs_nothing(self):
        net = Net(2, [((0, 1), ())], ())
        self.assertTrue(is_balanced(net, [3, -3]))
        self.assertFalse(is_balanced(net, [3, 3]))

    def test_no_transitions(self):
        self.assertTrue(is_balanced(Net(2, [], ()), [1, 2]))
        self.assertTrue(is_balanced(Net(0, [], ()), []))

    def test_firing_keeps_a_balanced_weight(self):
        net = Net(4, [((0,), (1, 2)), ((1,), (3,)), ((2, 3), (0,))], (0,))
        weights = [3, 1, 2, 1]
        self.assertTrue(is_balanced(net, weights))
        self.assertEqual([weight(marking, weights) for marking in net.markings_along([0, 1, 2, 0])], [3] * 5)

    def test_arguments_are_not_changed(self):
        weights = [2, 1, 1]
        net = Net(3, [((0,), (1, 2)), ((1, 2), (0,))], (0,))
        is_balanced(net, weights)
        weight((0, 1), weights)
        self.assertEqual(weights, [2, 1, 1])


class TrapsAndSiphons(unittest.TestCase):
    def test_the_empty_set_is_both(self):
        net = Net(2, [((0,), (1,)), ((1,), ())], ())
        self.assertTrue(is_trap(net, ()) is True)
        self.assertTrue(is_siphon(net, ()) is True)
        self.assertEqual(largest_trap(net, ()), ())
        self.assertEqual(largest_siphon(net, ()), ())

    def test_a_line(self):
        net = Net(3, [((0,), (1,)), ((1,), (2,))], (0,))
        self.assertTrue(is_trap(net, (2,)))
        self.assertTrue(is_trap(net, (1,)) is False)
        self.assertTrue(is_siphon(net, (0,)))
        self.assertTrue(is_siphon(net, (2,)) is False)
        self.assertEqual(largest_trap(net, (0, 1, 2)), (0, 1, 2))
        self.assertEqual(largest_trap(net, (0, 2)), (2,))
        self.assertEqual(largest_trap(net, (0, 1)), ())
        self.assertEqual(largest_siphon(net, (0, 1, 2)), (0, 1, 2))
        self.assertEqual(largest_siphon(net, (0, 2)), (0,))
        self.assertEqual(largest_siphon(net, (1, 2)), ())

    def test_a_transition_with_an_empty_postset(self):
        net = Net(2, [((0,), ())], ())
        self.assertFalse(is_trap(net, (0,)))
        self.assertTrue(is_siphon(net, (0,)))
        self.assertEqual(largest_trap(net, (0, 1)), (1,))
        self.assertEqual(largest_siphon(net, (0, 1)), (0, 1))

    def test_without_transitions_every_set_is_both(self):
        net = Net(3, [], ())
        self.assertEqual(largest_trap(net, (0, 2)), (0, 2))
        self.assertEqual(largest_siphon(net, (0, 2)), (0, 2))

    def test_a_chain_of_removals_against_the_order(self):
        net = Net(64, [((k,), (k + 1,)) for k in range(63)] + [((63,), ())], ())
        self.assertEqual(largest_trap(net, tuple(range(64))), ())
        net = Net(64, [((k,), (k + 1,)) for k in range(63)] + [((1,), (0,))], ())
        self.assertEqual(largest_siphon(net, tuple(range(1, 64))), ())

    def test_against_a_search_of_all_subsets(self):
        for seed in range(150):
            net = random_net(seed)
            all_traps, all_siphons = traps(net), siphons(net)
            for places in ascending_sets(net.place_count):
                with self.subTest(seed=seed, places=places):
                    self.assertEqual(is_trap(net, places), places in all_traps)
                    self.assertEqual(is_siphon(net, places), places in all_siphons)
                    self.assertEqual(largest_trap(net, places), largest(all_traps, places))
                    self.assertEqual(largest_siphon(net, places), largest(all_siphons, places))


def largest(found, places):
    """The union of the found sets that consist of some of the places."""
    inside = [set(one) for one in found if set(one) <= set(places)]
    return tuple(sorted(set().union(*inside)))
