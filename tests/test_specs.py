"""Points 9 to 13: signals, edges, codes, texts and the mirror."""

import string
import unittest

from clockless.errors import InvalidSpec, UnknownName
from clockless.nets import Net
from clockless.specs import Spec
from clockless.spectext import parse_spec
from tests.samples import HANDSHAKE, random_spec, ring_net

EMPTY = Net(0, [], ())
NAMES = ["a", "b", "c", "d", "e", "f", "g", "h", "i"]


def spec_with_signals(signals, start=None):
    return Spec(EMPTY, signals, [], "0" * len(signals) if start is None else start)


def ring_spec(**changes):
    """A specification of one ring; parts of it may be changed."""
    parts = {
        "net": ring_net(4),
        "signals": [("a", "input"), ("b", "output")],
        "edges": [(0, 1), (1, 1), (0, 0), (1, 0)],
        "start": "00",
    }
    parts.update(changes)
    return Spec(parts["net"], parts["signals"], parts["edges"], parts["start"])


class Names(unittest.TestCase):
    def refuse(self, name):
        for signals in ([(name, "input")], [("x", "input"), (name, "output")]):
            with self.subTest(signals), self.assertRaises(InvalidSpec):
                spec_with_signals(signals)

    def test_lengths(self):
        for name in ("a", "z", "ab", "a" * 12, "a12345678901", "z9"):
            with self.subTest(name):
                self.assertEqual(spec_with_signals([(name, "input")]).signals, ((name, "input"),))
        self.refuse("")
        self.refuse("a" * 13)
        self.refuse("a" * 100)

    def test_wrong_first_characters(self):
        for character in "0129AZ_-+/ `{@.":
            self.refuse(character)
            self.refuse(character + "a")

    def test_wrong_later_characters(self):
        for character in "AZ_-+/ `{@.:\n":
            self.refuse("a" + character)
            self.refuse("a" + character + "b")
            self.refuse("a" * 11 + character)

    def test_all_letters_and_digits_may_follow(self):
        for character in "abcdefghijklmnopqrstuvwxyz":
            spec_with_signals([(character, "input")])
        for character in "abcdefghijklmnopqrstuvwxyz0123456789":
            spec_with_signals([("a" + character, "input")])

    def test_equal_names(self):
        for signals in ([("a", "input"), ("a", "input")], [("a", "input"), ("b", "inner"), ("a", "output")]):
            with self.assertRaises(InvalidSpec):
                spec_with_signals(signals)
        spec_with_signals([("a", "input"), ("a1", "input"), ("aa", "input")])

    def test_words_of_the_text_may_be_names(self):
        spec_with_signals([("to", "input"), ("places", "output"), ("signal", "inner"), ("input", "input")])


class Kinds(unittest.TestCase):
    def test_the_three_kinds(self):
        spec = spec_with_signals([("a", "input"), ("b", "output"), ("c", "inner"), ("d", "input")])
        self.assertEqual(spec.driven, (1, 2))
        self.assertEqual([spec.is_input(k) for k in range(4)], [True, False, False, True])

    def test_wrong_kinds(self):
        for kind in ("", "in", "Input", "inputs", "out", "inner ", "driven", "0"):
            with self.subTest(kind), self.assertRaises(InvalidSpec):
                spec_with_signals([("a", kind)])

    def test_driven_of_one_kind_only(self):
        self.assertEqual(spec_with_signals([("a", "input")]).driven, ())
        self.assertEqual(spec_with_signals([("a", "inner"), ("b", "output")]).driven, (0, 1))


class Counts(unittest.TestCase):
    def test_eight_and_nine_signals(self):
        signals = [(name, "input") for name in NAMES]
        self.assertEqual(len(spec_with_signals(signals[:8])), 8)
        with self.assertRaises(InvalidSpec):
            spec_with_signals(signals)

    def test_no_signals(self):
        spec = Spec(Net(2, [], (0,)), [], [], "")
        self.assertEqual((len(spec), spec.driven, spec.signals, spec.edges, spec.start), (0, (), (), (), ""))
        with self.assertRaises(InvalidSpec):
            Spec(ring_net(1), [], [(0, 1)], "")

    def test_the_number_of_edges(self):
        edges = [(0, 1), (1, 1), (0, 0), (1, 0)]
        for wrong in (edges[:3], [*edges, (0, 1)], []):
            with self.subTest(wrong), self.assertRaises(InvalidSpec):
                ring_spec(edges=wrong)

    def test_wrong_edges(self):
        for edge in ((2, 1), (-1, 0), (3, 0), (0, 2), (1, -1), (10 ** 59, 1), (0, 10 ** 59)):
            for index in (0, 3):
                edges = [(0, 1), (1, 1), (0, 0), (1, 0)]
                edges[index] = edge
                with self.subTest(edges), self.assertRaises(InvalidSpec):
                    ring_spec(edges=edges)

    def test_start_codes(self):
        for start in ("00", "01", "10", "11"):
            self.assertEqual(ring_spec(start=start).start, start)
        for start in ("", "0", "000", "02", "a0", "0 ", " 0", "-0", "0-", "0\n"):
            with self.subTest(start), self.assertRaises(InvalidSpec):
                ring_spec(start=start)
        for character in string.printable:
            if character not in "01":
                with self.subTest(character), self.assertRaises(InvalidSpec):
                    ring_spec(start="0" + character)
        with self.assertRaises(InvalidSpec):
            spec_with_signals([], "0")


class Fields(unittest.TestCase):
    def test_fields(self):
        spec = ring_spec()
        self.assertEqual(spec.net.transitions, ring_net(4).transitions)
        self.assertEqual(spec.signals, (("a", "input"), ("b", "output")))
        self.assertEqual(spec.edges, ((0, 1), (1, 1), (0, 0), (1, 0)))
        self.assertEqual(spec.start, "00")
        self.assertEqual(len(spec), 2)
        self.assertIsInstance(spec.signals, tuple)
        self.assertIsInstance(spec.edges, tuple)

    def test_the_lists_are_copied(self):
        signals = [("a", "input"), ("b", "output")]
        edges = [(0, 1), (1, 1), (0, 0), (1, 0)]
        spec = ring_spec(signals=signals, edges=edges)
        signals.append(("c", "inner"))
        signals[0] = ("d", "output")
        edges[0] = (1, 0)
        edges.pop()
        self.assertEqual(spec, ring_spec())
        self.assertEqual((len(spec), spec.driven, spec.transition_text(0)), (2, (1,), "a+"))
        self.assertEqual(len(signals), 3)

    def test_the_lists_are_not_changed(self):
        signals = [("b", "input"), ("a", "output")]
        edges = [(1, 0), (1, 1), (0, 0), (1, 0)]
        ring_spec(signals=signals, edges=edges)
        self.assertEqual(signals, [("b", "input"), ("a", "output")])
        self.assertEqual(edges, [(1, 0), (1, 1), (0, 0), (1, 0)])


class Texts(unittest.TestCase):
    def spec(self):
        return Spec(ring_net(8), [("ack", "input"), ("b", "output")],
                    [(0, 1), (0, 0), (0, 1), (1, 1), (0, 0), (0, 1), (1, 0), (0, 1)], "00")

    def test_edge_texts(self):
        spec = self.spec()
        self.assertEqual([spec.edge_text(edge) for edge in ((0, 1), (0, 0), (1, 1), (1, 0))],
                         ["ack+", "ack-", "b+", "b-"])

    def test_transition_texts(self):
        spec = self.spec()
        texts = ["ack+", "ack-", "ack+/2", "b+", "ack-/2", "ack+/3", "b-", "ack+/4"]
        self.assertEqual([spec.transition_text(k) for k in range(8)], texts)
        self.assertEqual([spec.transition_named(text) for text in texts], list(range(8)))

    def test_ten_transitions_of_one_edge(self):
        spec = Spec(ring_net(12), [("a", "inner")], [(0, 1)] * 12, "0")
        self.assertEqual(spec.transition_text(9), "a+/10")
        self.assertEqual(spec.transition_named("a+/12"), 11)

    def test_unknown_texts(self):
        spec = self.spec()
        for text in ("", "ack", "ack+/1", "ack+/5", "ack+/02", "ack-/3", "b+/2", "c+", "ack +", "Ack+", "+", "ack+/"):
            with self.subTest(text), self.assertRaises(UnknownName) as caught:
                spec.transition_named(text)
            self.assertEqual(caught.exception.name, text)

    def test_names(self):
        spec = self.spec()
        self.assertEqual((spec.signal_named("ack"), spec.signal_named("b")), (0, 1))
        for name in ("", "a", "ac", "acks", "B", "ack+", "input"):
            with self.subTest(name), self.assertRaises(UnknownName) as caught:
                spec.signal_named(name)
            self.assertEqual(caught.exception.name, name)

    def test_transitions_of_an_edge(self):
        spec = self.spec()
        self.assertEqual(spec.transitions_of((0, 1)), [0, 2, 5, 7])
        self.assertEqual(spec.transitions_of((0, 0)), [1, 4])
        self.assertEqual(spec.transitions_of((1, 0)), [6])
        spec.transitions_of((1, 0)).append(3)
        self.assertEqual(spec.transitions_of((1, 0)), [6])
        spare = Spec(ring_net(1), [("a", "input"), ("b", "input")], [(0, 1)], "00")
        self.assertEqual(spare.transitions_of((1, 1)), [])


class Mirror(unittest.TestCase):
    def test_inputs_and_outputs_change_places(self):
        signals = [("a", "input"), ("b", "output"), ("c", "inner"), ("d", "input")]
        spec = Spec(ring_net(4), signals, [(0, 1), (1, 1), (2, 0), (3, 0)], "0011")
        mirror = spec.mirror()
        self.assertEqual(mirror.signals, (("a", "output"), ("b", "input"), ("c", "inner"), ("d", "output")))
        self.assertEqual(mirror.driven, (0, 2, 3))
        self.assertEqual(mirror.edges, spec.edges)
        self.assertEqual(mirror.start, spec.start)
        self.assertEqual(mirror.net.transitions, spec.net.transitions)
        self.assertEqual((mirror.net.place_count, mirror.net.marked), (4, (0,)))
        self.assertEqual(spec.signals, tuple(signals))
        self.assertFalse(mirror == spec)

    def test_the_mirror_of_the_mirror(self):
        for seed in range(50):
            spec = random_spec(seed)
            self.assertEqual(spec.mirror().mirror(), spec)

    def test_only_inner_signals(self):
        spec = Spec(ring_net(2), [("a", "inner")], [(0, 1), (0, 0)], "0")
        self.assertEqual(spec.mirror(), spec)
        self.assertIsNot(spec.mirror(), spec)


class Equality(unittest.TestCase):
    def test_equal(self):
        self.assertTrue(ring_spec() == ring_spec())
        self.assertFalse(ring_spec() != ring_spec())
        self.assertTrue(ring_spec() == parse_spec(HANDSHAKE))

    def test_a_change_of_each_part(self):
        ring = ring_net(4)
        changes = [
            {"net": Net(5, ring.transitions, (0,))},
            {"net": Net(4, [*ring.transitions[:3], ((3,), ())], (0,))},
            {"net": Net(4, [*ring.transitions[:3], ((2, 3), (0,))], (0,))},
            {"net": Net(4, ring.transitions, (1,))},
            {"net": Net(4, ring.transitions, ())},
            {"signals": [("a", "input"), ("c", "output")]},
            {"signals": [("a", "input"), ("b", "inner")]},
            {"signals": [("b", "input"), ("a", "output")]},
            {"signals": [("a", "input"), ("b", "output"), ("c", "inner")], "start": "000"},
            {"edges": [(0, 1), (1, 1), (0, 0), (1, 1)]},
            {"edges": [(0, 1), (1, 1), (0, 0), (0, 0)]},
            {"start": "01"},
        ]
        for change in changes:
            with self.subTest(change):
                self.assertFalse(ring_spec() == ring_spec(**change))
                self.assertTrue(ring_spec() != ring_spec(**change))
                self.assertTrue(ring_spec(**change) == ring_spec(**change))
