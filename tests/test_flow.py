"""Points 56 to 58, and with them point 1: designs and what they guarantee, refusals and what they show."""

import unittest

from clockless.boards import Board
from clockless.building import build
from clockless.errors import (CodeConflict, Inconsistent, Nondeterministic, NotPersistent, Refusal, TooLarge, Unsafe)
from clockless.examining import examine, is_certificate
from clockless.flow import Design, design, reason, synthesise
from clockless.graphs import explore
from clockless.nettext import format_netlist
from clockless.resolving import resolve
from clockless.spectext import parse_spec
from tests.board_reference import enabled_transitions, fired
from tests.samples import HANDSHAKE, loop_spec, machine, random_loop, random_machines, random_spec, ring
from tests.test_boards import PAIR

STYLES = ("atomic", "latch", "split")

# Texts of specifications without a circuit, with the error and its fields.
REFUSED = [
    ("signal a input 0\nplaces 3 0\na+ 0 to 1 2\na- 1 to 0", Unsafe, {"sequence": [0, 1, 0], "place": 2}),
    ("signal a input 0\nplaces 3 0 1 2\na+ 0 to 1 2", Unsafe, {"sequence": [0], "place": 1}),
    ("signal a input 0\nplaces 3 0\na+ 0 to 1\na+/2 1 to 2", Inconsistent, {"sequence": [0, 1]}),
    ("signal a input 0\nsignal b output 0\nplaces 3 0\na+ 0 to 1\na+/2 0 to 2\nb+ 2 to", Nondeterministic,
     {"sequence": [], "first": 0, "second": 1}),
    ("signal a output 0\nsignal b output 0\nplaces 2 0\na+ 0 to\nb+ 0 to", NotPersistent,
     {"sequence": [], "disabled": 0, "by": 1}),
    ("signal a input 0\nsignal b output 0\nplaces 6 0\na+ 0 to 1\na- 1 to 2\nb+ 2 to 3\na+/2 3 to 4\na-/2 4 to 5\n"
     "b- 5 to 0", CodeConflict, {"first": [], "second": [0, 1]}),
]


def error_of(spec, **options):
    """The error that designing raises, or None."""
    try:
        design(spec, **options)
    except Refusal as error:
        return error
    return None


class Designs(unittest.TestCase):
    def test_nothing_is_inserted(self):
        spec = parse_spec(HANDSHAKE)
        made = design(spec)
        self.assertIsInstance(made, Design)
        self.assertEqual((made.spec, made.refined, made.inserted), (spec, spec, ()))
        self.assertEqual(made.netlist, build(explore(spec)))

    def test_styles(self):
        for style in STYLES:
            spec = ring("a+ b+ c+ a- b- c-", kinds="ino")
            made = design(spec, style=style)
            self.assertEqual(made.netlist, build(explore(spec), style=style))
            self.assertEqual(synthesise(spec, style=style), made.netlist)
        self.assertEqual(design(spec).netlist, design(spec, style="split").netlist)
        self.assertEqual(synthesise(spec), design(spec, style="split").netlist)
        self.assertNotEqual(synthesise(spec), synthesise(spec, style="atomic"))

    def test_inserted_signals(self):
        for text, kinds, names in (("a+ a- b+ b-", "oo", ("s0",)), ("a+ a- b+ b- c+ c-", "ooo", ("s0", "s1")),
                                   ("a+ b+ b- a- c+ c-", "ioo", ("s0",))):
            spec = ring(text, kinds=kinds)
            self.assertIsNone(reason(spec))
            for style in STYLES:
                made = design(spec, style=style)
                self.assertEqual(made.inserted, names)
                self.assertEqual(made.spec, spec)
                self.assertEqual(made.refined, resolve(spec))
                self.assertEqual(made.netlist, build(explore(made.refined), style=style))
                self.assertEqual(made.netlist.signals, (*spec.signals, *[(name, "inner") for name in names]))
            self.assertEqual(spec, ring(text, kinds=kinds))

    def test_rounds(self):
        spec = ring("a+ a- b+ b- c+ c- d+ d- e+ e-", kinds="ooooo")
        self.assertEqual(design(spec, rounds=3).inserted, ("s0", "s1", "s2"))
        self.assertEqual(synthesise(spec, rounds=3), design(spec, rounds=3).netlist)
        self.assertIsNone(reason(spec, rounds=3))
        for ask in (design, synthesise):
            for options in ({}, {"rounds": 2}, {"rounds": 0}):
                with self.assertRaises(CodeConflict) as caught:
                    ask(spec, **options)
                self.assertEqual((caught.exception.first, caught.exception.second), ([], [0, 1]))
        self.assertEqual([reason(spec), reason(spec, rounds=2)], ["CodeConflict", "CodeConflict"])

    def test_the_limit_holds_for_exploring(self):
        spec = parse_spec(HANDSHAKE)
        self.assertEqual(design(spec, limit=4).netlist, synthesise(spec))
        for ask in (design, synthesise):
            with self.assertRaises(TooLarge) as caught:
                ask(spec, limit=3)
            self.assertEqual(caught.exception.limit, 3)
        self.assertEqual([reason(spec, limit=4), reason(spec, limit=3)], [None, "TooLarge"])

    def test_the_limit_holds_for_resolving(self):
        spec = ring("a+ a- b+ b-", kinds="oo")
        self.assertEqual(design(spec, limit=6).inserted, ("s0",))
        for limit in (4, 5):
            self.assertEqual(vars(error_of(spec, limit=limit)), {"first": [], "second": [0, 1]})
            self.assertEqual(reason(spec, limit=limit), "CodeConflict")
        self.assertEqual(reason(spec, limit=3), "TooLarge")

    def test_without_a_limit(self):
        for lengths, name in (((10, 10, 10), None), ((7, 11, 13), "TooLarge")):
            lines = [f"signal {letter} input 0" for letter in "abc"]
            lines.append(f"places {sum(lengths)} 0 {lengths[0]} {lengths[0] + lengths[1]}")
            first = 0
            for letter, length in zip("abc", lengths):
                for step in range(length - 1):
                    count = "" if step < 2 else f"/{step // 2 + 1}"
                    lines.append(f"{letter}{'+-'[step % 2]}{count} {first + step} to {first + step + 1}")
                first += length
            spec = parse_spec("\n".join(lines))
            self.assertEqual(reason(spec), name)
            error = error_of(spec)
            self.assertEqual(error and error.limit, name and 1000)

    def test_no_signals(self):
        made = design(parse_spec("places 1 0"))
        self.assertEqual((format_netlist(made.netlist), made.inserted), ("", ()))


class Refused(unittest.TestCase):
    def test_each_step_with_its_fields(self):
        for text, error, fields in REFUSED:
            spec = parse_spec(text)
            for style in STYLES:
                found = error_of(spec, style=style)
                self.assertEqual(found.__class__, error)
                self.assertEqual(vars(found), fields)
                with self.assertRaises(error) as caught:
                    synthesise(spec, style=style)
                self.assertEqual(vars(caught.exception), fields)
            self.assertEqual(reason(spec), error.__name__)
            self.assertEqual(spec, parse_spec(text))

    def test_the_first_step_decides(self):
        # Above the limit, and not persistent in the first state.
        spec = parse_spec("signal a output 0\nsignal b output 0\nplaces 2 0\na+ 0 to\nb+ 0 to")
        self.assertEqual([reason(spec, limit=2), reason(spec, limit=3)], ["TooLarge", "NotPersistent"])
        # Not persistent in state 0, and not deterministic in state 1.
        spec = machine(["00", "10", "01", "11", "11"], [(0, 1), (0, 2), (1, 3), (1, 4)], kinds="oo")
        self.assertEqual(vars(error_of(spec)), {"sequence": [0], "first": 2, "second": 3})
        self.assertEqual(reason(spec), "Nondeterministic")
        # Not persistent, and with a conflict in earlier states.
        spec = machine(["000", "100", "000", "010", "001"], [(0, 1), (1, 2), (2, 3), (2, 4)], kinds="ioo")
        self.assertEqual(vars(error_of(spec)), {"sequence": [0, 1], "disabled": 2, "by": 3})
        self.assertEqual(reason(spec), "NotPersistent")

    def test_a_circuit(self):
        self.assertIsNone(reason(parse_spec(HANDSHAKE)))
        self.assertIsNone(reason(parse_spec("\n".join(PAIR))))

    def test_design_synthesise_and_reason_agree(self):
        found = {}
        for seed in range(200):
            for spec in (random_spec(seed), random_machines(seed)):
                error = error_of(spec, rounds=1, limit=40)
                name = error and error.__class__.__name__
                self.assertEqual(reason(spec, rounds=1, limit=40), name)
                found[name] = found.get(name, 0) + 1
                if error is None:
                    self.assertEqual(synthesise(spec, rounds=1, limit=40), design(spec, rounds=1, limit=40).netlist)
        self.assertGreaterEqual(len(found), 6)


def designs():
    """Specifications with circuits: pairs of the specification and its design in one style."""
    specs = [random_machines(seed) for seed in range(100)] + [random_loop(seed) for seed in range(70)]
    specs += [ring("a+ a- b+ b- c+ c-", kinds="ooo"), parse_spec(HANDSHAKE),
              loop_spec([[(0, 1)], [(1, 1), (2, 1)], [(0, 0)], [(1, 0), (2, 0)]], ["input", "output", "output"]),
              machine(["000", "100", "010", "110", "101", "011", "111"],
                      [(0, 1), (0, 2), (1, 3), (1, 4), (2, 3), (2, 5), (3, 6), (4, 6), (5, 6)], kinds="iio")]
    for spec in specs:
        if reason(spec) is None:
            for style in STYLES:
                yield spec, design(spec, style=style)


class Guarantees(unittest.TestCase):
    def test_examinations_find_no_flaw(self):
        inserted = {}
        for spec, made in designs():
            board = Board(spec, made.netlist)
            states = examine(board, limit=20000)
            self.assertTrue(is_certificate(board, states))
            inserted[len(made.inserted)] = inserted.get(len(made.inserted), 0) + 1
        self.assertGreater(min(inserted.get(count, 0) for count in range(3)), 10, inserted)

    def test_inner_wires_change_at_most_once_between_signals(self):
        for spec, made in designs():
            board = Board(spec, made.netlist)
            states = examine(board, limit=20000)
            if len(states) < 120:
                for state in states:
                    self.check_inner_moves(board, state)

    def check_inner_moves(self, board, state):
        """From this state on, as long as only inner wires move, each one moves at most once."""
        seen, waiting = set(), [(state[1], ())]
        while waiting:
            values, moved = waiting.pop()
            for wire in board.netlist.excited(values):
                if wire >= board.netlist.signal_count:
                    self.assertNotIn(wire, moved)
                    after = (board.netlist.flipped(values, wire), tuple(sorted((*moved, wire))))
                    if after not in seen:
                        seen.add(after)
                        waiting.append(after)


class Replay:
    """The given specification, fired step by step without the program's own nets and graphs."""

    def __init__(self, spec):
        self.spec = spec
        self.marking, self.code = spec.net.marked, spec.start

    def faults(self, transition):
        """Whether the transition is enabled, the places that would hold two tokens, whether the value is repeated."""
        preset, postset = self.spec.net.transitions[transition]
        signal, value = self.spec.edges[transition]
        doubled = (set(self.marking) - set(preset)) & set(postset)
        return transition in self.enabled(), sorted(doubled), int(self.code[signal]) == value

    def enabled(self):
        return enabled_transitions(self.spec, self.marking)

    def edges(self):
        return [self.spec.edges[transition] for transition in self.enabled()]

    def fire(self, *sequence):
        for transition in sequence:
            assert self.faults(transition) == (True, [], False)
            self.marking = fired(self.spec, self.marking, transition)
            signal, value = self.spec.edges[transition]
            self.code = self.code[:signal] + str(value) + self.code[signal + 1:]
        return self

    def driven(self):
        return {signal for signal, _ in self.edges() if self.spec.signals[signal][1] != "input"}


class Shown(unittest.TestCase):
    """Point 58: the fields of each refusal, replayed from the initial state."""

    def check(self, spec, error, limit):
        name = error.__class__.__name__
        if name == "Unsafe":
            enabled, doubled, _ = Replay(spec).fire(*error.sequence[:-1]).faults(error.sequence[-1])
            self.assertTrue(enabled and doubled)
            self.assertEqual(error.place, doubled[0])
        elif name == "Inconsistent":
            self.assertEqual(Replay(spec).fire(*error.sequence[:-1]).faults(error.sequence[-1]), (True, [], True))
        elif name == "TooLarge":
            self.assertEqual(error.limit, limit)
            self.assertGreater(len(self.reachable(spec, limit + 1)), limit)
        elif name == "Nondeterministic":
            self.assertEqual(spec.edges[error.first], spec.edges[error.second])
            ends = [Replay(spec).fire(*error.sequence, k) for k in (error.first, error.second)]
            self.assertNotEqual((ends[0].marking, ends[0].code), (ends[1].marking, ends[1].code))
        elif name == "NotPersistent":
            Replay(spec).fire(*error.sequence, error.disabled)
            edge, other = spec.edges[error.disabled], spec.edges[error.by]
            self.assertNotEqual(edge, other)
            self.assertNotEqual([spec.signals[signal][1] for signal, _ in (edge, other)], ["input", "input"])
            self.assertNotIn(edge, Replay(spec).fire(*error.sequence, error.by).edges())
        else:
            ends = [Replay(spec).fire(*error.first), Replay(spec).fire(*error.second)]
            self.assertEqual(ends[0].code, ends[1].code)
            self.assertNotEqual(ends[0].driven(), ends[1].driven())
        return name

    def reachable(self, spec, most):
        found, waiting = {(spec.net.marked, spec.start)}, [[]]
        while waiting and len(found) < most:
            path = waiting.pop()
            for transition in Replay(spec).fire(*path).enabled():
                replay = Replay(spec).fire(*path)
                if replay.faults(transition) == (True, [], False):
                    replay.fire(transition)
                    if (replay.marking, replay.code) not in found:
                        found.add((replay.marking, replay.code))
                        waiting.append([*path, transition])
        return found

    def test_refusals(self):
        shown = {}
        for text, _, _ in REFUSED:
            spec = parse_spec(text)
            self.check(spec, error_of(spec), 1000)
        for seed in range(300):
            for spec, limit in ((random_spec(seed), 4), (random_machines(seed), 4), (random_machines(seed), 30),
                                (random_loop(seed), 30)):
                error = error_of(spec, rounds=int(seed < 60), limit=limit)
                if error is not None:
                    name = self.check(spec, error, limit)
                    shown[name] = shown.get(name, 0) + 1
        self.assertEqual(len(shown), 6)
        self.assertGreater(min(shown.values()), 10, shown)
