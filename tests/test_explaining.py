"""Point 76: explanations of refusals."""

import unittest

from clockless.errors import CodeConflict, Inconsistent, Nondeterministic, NotPersistent, Refusal, TooLarge, Unsafe
from clockless.explaining import explanation, sequence_text
from clockless.flow import design
from clockless.spectext import parse_spec
from tests.samples import random_spec
from tests.test_flow import REFUSED

LINES = ["signal req input 0", "signal ack2 output 0", "places 1 0", "req+ 0 to", "ack2+ 0 to", "req+/2 0 to",
         "req- 0 to", "req+/3 0 to", "ack2- 0 to"]
SPEC = parse_spec("\n".join(LINES))
LARGE = 10 ** 59


class Sequences(unittest.TestCase):
    def test_texts(self):
        for sequence, text in (([], "start"), ([0], "req+"), ([5, 1], "ack2- ack2+"), ([0, 2, 4], "req+ req+/2 req+/3"),
                               ([3, 3], "req- req-")):
            self.assertEqual(sequence_text(SPEC, sequence), text)
            self.assertEqual(sequence_text(SPEC, tuple(sequence)), text)


class Explanations(unittest.TestCase):
    def check(self, refusal, text):
        self.assertEqual(explanation(SPEC, refusal), text)

    def test_unsafe(self):
        self.check(Unsafe([0], 3), "unsafe: req+ puts a second token on place 3")
        self.check(Unsafe([0, 2, 1], 63), "unsafe: req+ req+/2 ack2+ puts a second token on place 63")
        self.check(Unsafe([1], LARGE), f"unsafe: ack2+ puts a second token on place 1{'0' * 59}")

    def test_inconsistent(self):
        self.check(Inconsistent([2]), "inconsistent: req+/2 repeats the value of req")
        self.check(Inconsistent([0, 1]), "inconsistent: req+ ack2+ repeats the value of ack2")
        self.check(Inconsistent([1, 0, 4]), "inconsistent: ack2+ req+ req+/3 repeats the value of req")

    def test_too_large(self):
        self.check(TooLarge(1), "too large: more than 1 states")
        self.check(TooLarge(1000), "too large: more than 1000 states")
        self.check(TooLarge(LARGE), f"too large: more than 1{'0' * 59} states")

    def test_nondeterministic(self):
        self.check(Nondeterministic([], 0, 2), "nondeterministic: after start, req+ and req+/2 lead to different states")
        self.check(Nondeterministic([1, 3], 2, 4),
                   "nondeterministic: after ack2+ req-, req+/2 and req+/3 lead to different states")

    def test_not_persistent(self):
        self.check(NotPersistent([], 0, 1), "not persistent: after start, ack2+ disables req+")
        self.check(NotPersistent([4], 1, 0), "not persistent: after req+/3, req+ disables ack2+")
        self.check(NotPersistent([0, 3, 0], 5, 2), "not persistent: after req+ req- req+, req+/2 disables ack2-")

    def test_code_conflict(self):
        self.check(CodeConflict([], [0, 3]), "code conflict: start and req+ req- lead to the same code")
        self.check(CodeConflict([0], []), "code conflict: req+ and start lead to the same code")
        self.check(CodeConflict([], []), "code conflict: start and start lead to the same code")
        self.check(CodeConflict([2, 1], [1, 4]), "code conflict: req+/2 ack2+ and ack2+ req+/3 lead to the same code")

    def test_refusals_of_designs(self):
        expected = [
            "unsafe: a+ a- a+ puts a second token on place 2", "unsafe: a+ puts a second token on place 1",
            "inconsistent: a+ a+/2 repeats the value of a",
            "nondeterministic: after start, a+ and a+/2 lead to different states",
            "not persistent: after start, b+ disables a+", "code conflict: start and a+ a- lead to the same code"]
        for (text, _, _), words in zip(REFUSED, expected, strict=True):
            spec = parse_spec(text)
            with self.assertRaises(Refusal) as caught:
                design(spec)
            self.assertEqual(explanation(spec, caught.exception), words)

    def test_each_is_one_line(self):
        for seed in range(200):
            spec = random_spec(seed)
            try:
                design(spec, rounds=0, limit=30)
            except Refusal as refusal:
                fields = {name: list(value) if isinstance(value, list) else value
                          for name, value in vars(refusal).items()}
                self.assertRegex(explanation(spec, refusal), "^[a-z ]+: [a-zA-Z0-9+/,-]+( [a-z0-9+/,-]+)*$")
                self.assertEqual(vars(refusal), fields)
