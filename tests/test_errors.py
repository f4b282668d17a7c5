"""The error classes: their bases and their fields."""

import unittest

from clockless import errors
from clockless.boards import Board
from clockless.composing import compose
from clockless.netlists import Netlist
from clockless.nets import Net
from clockless.processes import Program
from clockless.specs import Spec

BASES = {
    "ClocklessError": "ValueError",
    "InvalidNet": "ClocklessError",
    "NotEnabled": "ClocklessError",
    "Refusal": "ClocklessError",
    "Unsafe": "Refusal",
    "InvalidSpec": "ClocklessError",
    "UnknownName": "ClocklessError",
    "InvalidText": "ClocklessError",
    "Inconsistent": "Refusal",
    "TooLarge": "Refusal",
    "Nondeterministic": "Refusal",
    "NotPersistent": "Refusal",
    "CodeConflict": "Refusal",
    "InvalidNetlist": "ClocklessError",
    "InvalidBoard": "ClocklessError",
    "InvalidMove": "ClocklessError",
    "Flawed": "ClocklessError",
    "InvalidProgram": "ClocklessError",
    "NotTranslatable": "ClocklessError",
    "NotComposable": "ClocklessError",
}

FIELDS = {
    "NotEnabled": {"transition": 3},
    "Unsafe": {"sequence": [0, 1], "place": 2},
    "UnknownName": {"name": "ack"},
    "InvalidText": {"line": 4},
    "Inconsistent": {"sequence": [1, 0]},
    "TooLarge": {"limit": 1000},
    "Nondeterministic": {"sequence": [5], "first": 1, "second": 2},
    "NotPersistent": {"sequence": [], "disabled": 2, "by": 1},
    "CodeConflict": {"first": [0], "second": [0, 1]},
    "InvalidMove": {"move": ("gate", 1)},
    "Flawed": {"moves": [("input", 0), ("gate", 3)], "kind": "hazard", "wire": 2},
    "NotTranslatable": {"loop": 0},
}


class Classes(unittest.TestCase):
    def test_every_class_has_its_base(self):
        for name, base in BASES.items():
            with self.subTest(name):
                self.assertEqual([one.__name__ for one in getattr(errors, name).__bases__], [base])

    def test_no_class_is_a_subclass_of_another_one(self):
        allowed = ("ClocklessError", "Refusal")
        for name in BASES:
            for other in BASES:
                if name != other and issubclass(getattr(errors, name), getattr(errors, other)):
                    self.assertIn(other, allowed)

    def test_there_are_no_other_errors(self):
        found = {name for name, one in vars(errors).items() if isinstance(one, type)}
        self.assertEqual(found, set(BASES))

    def test_a_refusal_is_not_another_error(self):
        refusals = {name for name in BASES if issubclass(getattr(errors, name), errors.Refusal)}
        self.assertEqual(refusals, {"Refusal", "Unsafe", "Inconsistent", "TooLarge", "Nondeterministic",
                                    "NotPersistent", "CodeConflict"})


class Fields(unittest.TestCase):
    def test_made_by_position(self):
        for name, fields in FIELDS.items():
            error = getattr(errors, name)(*fields.values())
            with self.subTest(name):
                self.assertEqual({field: getattr(error, field) for field in fields}, fields)

    def test_made_by_keyword(self):
        for name, fields in FIELDS.items():
            error = getattr(errors, name)(**fields)
            with self.subTest(name):
                self.assertEqual({field: getattr(error, field) for field in fields}, fields)

    def test_lists_are_copied(self):
        for name, fields in FIELDS.items():
            passed = [list(value) if isinstance(value, list) else value for value in fields.values()]
            error = getattr(errors, name)(*passed)
            for value in passed:
                if isinstance(value, list):
                    value.append("later")
            with self.subTest(name):
                self.assertEqual({field: getattr(error, field) for field in fields}, fields)
                self.assertNotIn("later", str(error.args))

    def test_the_other_errors_take_a_message(self):
        for name in set(BASES) - set(FIELDS):
            self.assertEqual(str(getattr(errors, name)("what is wrong")), "what is wrong")


def caught(work):
    """The error that the work raises."""
    try:
        work()
    except errors.ClocklessError as error:
        return error
    raise AssertionError("no error")


class Raised(unittest.TestCase):
    """Errors without fields, as what is not valid raises them."""

    def test_each_is_an_instance_of_its_own_class_only(self):
        empty = Net(0, [], ())
        spec = Spec(empty, [("a", "output")], [], "0")
        raised = {
            "InvalidNet": lambda: Net(-1, [], ()),
            "InvalidSpec": lambda: Spec(empty, [("a", "wire")], [], "0"),
            "InvalidNetlist": lambda: Netlist([("a", "output")], "0", [None]),
            "InvalidBoard": lambda: Board(spec, Netlist([], "", [])),
            "InvalidProgram": lambda: Program([("a", "output")], "0", []),
            "NotComposable": lambda: compose(spec, spec),
        }
        for name, work in raised.items():
            error = caught(work)
            for other in BASES:
                expected = other in (name, "ClocklessError")
                self.assertEqual(isinstance(error, getattr(errors, other)), expected, (name, other))
            self.assertIsInstance(error, ValueError)
            self.assertNotIsInstance(error, LookupError)

    def test_those_with_fields_are_instances_of_their_bases_only(self):
        for name, fields in FIELDS.items():
            error = getattr(errors, name)(*fields.values())
            for other in BASES:
                expected = other in (name, "ClocklessError", BASES[name])
                self.assertEqual(isinstance(error, getattr(errors, other)), expected, (name, other))
            self.assertIsInstance(error, ValueError)
