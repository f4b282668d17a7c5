"""Points 14 and 15: the written form of specifications."""

import random
import unittest

from clockless.errors import InvalidText
from clockless.nets import Net
from clockless.specs import Spec
from clockless.spectext import format_spec, parse_spec
from tests.samples import HANDSHAKE, random_spec, ring_net

HUGE = "1" + "0" * 5000


class Written(unittest.TestCase):
    def test_the_handshake(self):
        spec = Spec(ring_net(4), [("a", "input"), ("b", "output")], [(0, 1), (1, 1), (0, 0), (1, 0)], "00")
        self.assertEqual(format_spec(spec), HANDSHAKE)

    def test_every_kind_of_line(self):
        net = Net(12, [((0, 10), (1, 2, 11)), ((1,), ()), ((0,), (0,))], (0, 10))
        spec = Spec(net, [("req", "input"), ("x9", "inner"), ("z", "output")], [(2, 1), (2, 1), (1, 0)], "010")
        self.assertEqual(format_spec(spec), "\n".join([
            "signal req input 0",
            "signal x9 inner 1",
            "signal z output 0",
            "places 12 0 10",
            "z+ 0 10 to 1 2 11",
            "z+/2 1 to",
            "x9- 0 to 0",
        ]))

    def test_no_places_and_no_signals(self):
        self.assertEqual(format_spec(Spec(Net(0, [], ()), [], [], "")), "places 0")
        self.assertEqual(format_spec(Spec(Net(3, [], (2,)), [], [], "")), "places 3 2")
        self.assertEqual(format_spec(Spec(Net(0, [], ()), [("a", "input")], [], "1")), "signal a input 1\nplaces 0")

    def test_written_and_read_back(self):
        for seed in range(200):
            spec = random_spec(seed)
            self.assertEqual(parse_spec(format_spec(spec)), spec)

    def test_the_largest(self):
        every = tuple(range(64))
        net = Net(64, [(every, every)] * 64, every)
        signals = [(f"signal{k}abcde"[:12], "inner") for k in range(8)]
        spec = Spec(net, signals, [(k % 8, k // 8 % 2) for k in range(64)], "01010101")
        self.assertEqual(parse_spec(format_spec(spec)), spec)


class Read(unittest.TestCase):
    def same(self, text):
        with self.subTest(text):
            self.assertEqual(format_spec(parse_spec(text)), text)

    def test_correct_texts(self):
        self.same(HANDSHAKE)
        self.same("places 0")
        self.same("places 64 0 63")
        self.same("signal a input 1\nplaces 1\na- 0 to")
        self.same("signal to output 0\nsignal places input 1\nsignal signal inner 0\nplaces 1 0\n"
                  "to+ 0 to 0\nplaces- 0 to\nsignal+ 0 to")
        self.same("signal a12345678901 inner 0\nplaces 1 0\na12345678901+ 0 to\na12345678901+/2 0 to")

    def test_the_parts(self):
        spec = parse_spec("signal a input 1\nsignal b inner 0\nplaces 11 0 10\nb+ 0 10 to 3\na- 3 to 0 10\nb+/2 1 to")
        self.assertEqual(spec.signals, (("a", "input"), ("b", "inner")))
        self.assertEqual(spec.start, "10")
        self.assertEqual((spec.net.place_count, spec.net.marked), (11, (0, 10)))
        self.assertEqual(spec.net.transitions, (((0, 10), (3,)), ((3,), (0, 10)), ((1,), ())))
        self.assertEqual(spec.edges, ((1, 1), (0, 0), (1, 1)))

    def test_sixty_four_transitions(self):
        lines = ["signal a input 0", "places 1 0", "a+ 0 to"] + [f"a+/{k} 0 to" for k in range(2, 65)]
        self.same("\n".join(lines))


class Wrong(unittest.TestCase):
    def wrong(self, line, *lines):
        with self.subTest(lines):
            with self.assertRaises(InvalidText) as caught:
                parse_spec("\n".join(lines))
            self.assertEqual(caught.exception.line, line)

    def test_the_empty_text(self):
        self.wrong(1, "")

    def test_a_newline_at_the_end(self):
        self.wrong(8, *HANDSHAKE.split("\n"), "")
        self.wrong(2, "places 0", "")
        self.wrong(2, "signal a input 0", "")

    def test_empty_lines(self):
        self.wrong(1, "", "places 0")
        self.wrong(2, "signal a input 0", "", "places 0")
        self.wrong(3, "signal a input 0", "places 1 0", "", "a+ 0 to")
        self.wrong(1, "", "")

    def test_the_places_are_missing(self):
        self.wrong(2, "signal a input 0")
        self.wrong(3, "signal a input 0", "signal b output 1")
        self.wrong(9, *[f"signal a{k} input 0" for k in range(8)])

    def test_only_the_first_wrong_line_is_told(self):
        self.wrong(2, "signal a input 0", "signal a input 0", "signal", "places x")
        self.wrong(1, "signal", "signal")

    def test_lines_out_of_order(self):
        self.wrong(3, "signal a input 0", "places 1 0", "signal b input 0")
        self.wrong(2, "places 1 0", "signal a input 0")
        self.wrong(2, "signal a input 0", "a+ 0 to", "places 1 0")
        self.wrong(1, "a+ 0 to")
        self.wrong(2, "places 1 0", "places 1 0")
        self.wrong(4, "signal a input 0", "places 1 0", "a+ 0 to", "places 1 0")
        self.wrong(4, "signal a input 0", "places 1 0", "a+ 0 to", "signal b input 0")

    def test_signal_lines(self):
        for line in ("signal", "signal a", "signal a input", "signal a input 0 0", "signal a input 2",
                     "signal a input 00", "signal a input -", "signal a input 01", "signal a Input 0",
                     "signal a driven 0", "signal A input 0", "signal 1a input 0", "signal abcdefghijklm input 0",
                     "signal a+ input 0", "signal a_b input 0", "Signal a input 0", "signals a input 0",
                     "a input 0", "signal input a 0", "signal a 0 input", "signal a input " + HUGE,
                     "signal a input 0 ", " signal a input 0", "signal  a input 0", "signal a  input 0",
                     "signal a input  0", "signal  input 0", "signal a input ", "signal a  0"):
            self.wrong(1, line, "places 0")
            self.wrong(2, "signal b input 0", line, "places 0")

    def test_names_that_were_used(self):
        self.wrong(2, "signal a input 0", "signal a input 0", "places 0")
        self.wrong(3, "signal a input 0", "signal b input 0", "signal a output 1", "places 0")

    def test_a_ninth_signal(self):
        lines = [f"signal a{k} input 0" for k in range(9)]
        self.wrong(9, *lines, "places 0")

    def test_place_lines(self):
        for line in ("places", "places ", "places -1", "places 65", "places 100", "places 00", "places 01",
                     "places 064", "places +1", "places x", "places 1x", "places 0x1", "places " + HUGE,
                     "places " + "0" * 5000, "places 2 2", "places 2 0 0", "places 2 1 0", "places 2 0 1 2",
                     "places 2 -1", "places 2 00", "places 2 01", "places 2 x", "places 2 " + HUGE, "places 0 0",
                     "places 2  0", "places 2 0  1", "places  2 0", "places 2 0 ", " places 2 0", "places 2 ",
                     "place 2 0", "Places 2 0", "places 64 64", "places 64 63 63", "places 3 1 2 1"):
            self.wrong(1, line)
            self.wrong(2, "signal a input 0", line, "a+ 0 to")

    def test_transition_lines(self):
        for line in ("a+", "a+ 0", "a+ to", "a+ to 0", "a+ 0 1", "a+ 0 to 3", "a+ 3 to 0", "a+ 0 3 to 0",
                     "a+ 1 0 to", "a+ 0 0 to", "a+ 0 to 1 0", "a+ 0 to 1 1", "a+ 0 to 0 2 1", "a+ 0 to to",
                     "a+ 0 to 1 to 2", "a+ 00 to", "a+ 01 to", "a+ 0 to 01", "a+ 0 to 00", "a+ -1 to", "a+ 0 to -1",
                     "a+ x to", "a+ 0 to x", "a+ +0 to", "a+ " + HUGE + " to", "a+ 0 to " + HUGE, "to 0 to 1",
                     "a+  0 to", "a+ 0  to", "a+ 0 to ", "a+ 0 to  1", "a+ 0 to 1 ", " a+ 0 to", "a+ 0 To 1",
                     "a+ 0 tO 1", "a+0 to 1", "a+ 0to 1", "a+ 0 to1", "0 to 1", "a 0 to 1", "+ 0 to 1", "- 0 to 1"):
            self.wrong(3, "signal a input 0", "places 3 0", line)
            self.wrong(4, "signal a input 0", "places 3 0", "a- 0 to", line)

    def test_unknown_signals(self):
        for word in ("b+", "b-", "aa+", "A+", "a+a", "signal", "a++", "a+-", "a-+", "+a", "a*", "a+a+"):
            self.wrong(3, "signal a input 0", "places 1 0", word + " 0 to")
        self.wrong(2, "places 1 0", "a+ 0 to")

    def test_texts_that_are_not_the_right_one(self):
        for word in ("a+/1", "a+/2", "a+/", "a+/0", "a/2+", "a/", "/a+", "/", "a+/+", "/2"):
            self.wrong(3, "signal a input 0", "places 1 0", word + " 0 to")
        for word in ("a+", "a+/1", "a+/3", "a+/02", "a+/", "a+/2/", "a+/2/2", "a+//2", "a+/2+", "a+/-2",
                     "a+/" + HUGE, "a-/2", "a+/ 2"):
            self.wrong(4, "signal a input 0", "places 1 0", "a+ 0 to", word + " 0 to")
        self.wrong(5, "signal a input 0", "places 1 0", "a+ 0 to", "a+/2 0 to", "a+/2 0 to")
        self.wrong(5, "signal a input 0", "places 1 0", "a+ 0 to", "a- 0 to", "a-/3 0 to")

    def test_a_sixty_fifth_transition(self):
        lines = ["signal a input 0", "places 1 0", "a+ 0 to"] + [f"a+/{k} 0 to" for k in range(2, 66)]
        self.wrong(67, *lines)

    def test_no_places(self):
        self.wrong(3, "signal a input 0", "places 0", "a+ 0 to")
        self.wrong(3, "signal a input 0", "places 0", "a+ to")


class Changed(unittest.TestCase):
    def line_of(self, text):
        try:
            parse_spec(text)
        except InvalidText as error:
            return error.line
        return None

    def test_changed_texts(self):
        """A text that was changed is either exactly one that is written, or its first wrong line is told."""
        chance = random.Random(7)
        for seed in range(1500):
            text = format_spec(random_spec(seed % 100))
            for _ in range(chance.randint(1, 2)):
                at = chance.randrange(len(text))
                text = text[:at] + chance.choice(["", " ", "\n", "0", "1", "2", "a", "+", "to", "/2"]) + text[at + 1:]
            line = self.line_of(text)
            if line is None:
                self.assertEqual(format_spec(parse_spec(text)), text)
                continue
            lines = text.split("\n")
            self.assertTrue(1 <= line <= len(lines) + 1)
            before = "\n".join(lines[:line - 1])
            with self.subTest(text):
                if line > 1:
                    self.assertIn(self.line_of(before), (None, line))
                if line <= len(lines):
                    self.assertEqual(self.line_of("\n".join(lines[:line])), line)
