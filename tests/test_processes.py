"""Points 59 to 61: processes, programs, their states and steps."""

import random
import unittest

from clockless.errors import InvalidProgram
from clockless.processes import Program, depth, is_well_formed, steps
from tests.process_reference import (SIGNALS, choice, edge, nested, par, random_process, random_program, runs,
                                     runs_by_steps, seq)

A_UP, B_UP, C_UP, A_DOWN = edge("a+"), edge("b+"), edge("c+"), edge("a-")


def wrapped(process, kind, place):
    """A process that has the given one deep inside."""
    around = par(choice("a+", process), "b+") if process[0] == "seq" else seq("a+", choice("b+", process))
    return {"par": par("c+", around), "choice": choice(around, "c+"), "seq": seq(par(around, "c+"), "b-")}[kind] \
        if place else process


def everywhere(process):
    """The process itself, and others that have it deep inside."""
    return [process] + [wrapped(process, kind, True) for kind in ("par", "choice", "seq")]


class WellFormed(unittest.TestCase):
    def told(self, process, count=3):
        return {is_well_formed(one, count) for one in everywhere(process)}

    def test_each_kind(self):
        for process in (A_UP, seq("a+", "b+"), par("a+", "b+"), choice("a+", "b+"), seq(par("a+", "b-"), "c+"),
                        par(seq("a+", "b+"), seq("a-", "b-")), choice(choice("a+", "b+"), par("a+", "a+"))):
            self.assertEqual(self.told(process), {True})

    def test_the_number_of_parts(self):
        for kind in ("seq", "par", "choice"):
            for count in range(12):
                expected = 2 <= count <= 8
                self.assertEqual(self.told((kind, (A_UP,) * count)), {expected}, (kind, count))

    def test_a_sequence_in_a_sequence(self):
        inner = seq("a+", "b+")
        for process in (seq(inner, "c+"), seq("c+", inner), seq("a+", inner, "b+"), seq(inner, inner)):
            self.assertEqual(self.told(process), {False})
        for process in (seq("a+", choice(inner, "b+")), seq(par("a-", inner), inner[1][0])):
            self.assertEqual(self.told(process), {True})

    def test_other_kinds_in_themselves(self):
        self.assertEqual(self.told(par(par("a+", "b+"), "c+")), {True})
        self.assertEqual(self.told(choice("c+", choice("a+", "b+"))), {True})

    def test_signals(self):
        for signal, count, expected in ((0, 3, True), (2, 3, True), (3, 3, False), (3, 4, True), (-1, 3, False),
                                        (8, 3, False), (7, 8, True), (8, 8, False), (10 ** 59, 8, False)):
            self.assertEqual(self.told(("edge", signal, 1), count), {expected}, (signal, count))
        self.assertFalse(is_well_formed(A_UP, 0))
        self.assertTrue(is_well_formed(A_UP, 1))
        self.assertFalse(is_well_formed(par("a+", "b+"), 1))

    def test_values(self):
        for value, expected in ((0, True), (1, True), (2, False), (-1, False), (10 ** 59, False)):
            self.assertEqual(self.told(("edge", 0, value)), {expected}, value)

    def test_depth(self):
        for levels in (1, 2, 11, 12, 13, 14, 39, 40):
            for inner in (A_UP, B_UP):
                process = nested(levels, inner=inner)
                self.assertEqual(is_well_formed(process, 2), levels <= 12, levels)
                self.assertEqual(depth(process), levels)

    def test_the_deepest_part_counts(self):
        for index in range(3):
            parts = ["a+", "b+", "c+"]
            parts[index] = nested(11)
            self.assertTrue(is_well_formed(par(*parts), 3))
            parts[index] = nested(12)
            self.assertFalse(is_well_formed(par(*parts), 3))
            self.assertEqual(depth(par(*parts)), 13)

    def test_hundreds_of_levels(self):
        for levels in (100, 500, 5000):
            self.assertFalse(is_well_formed(nested(levels), 2))
            self.assertEqual(depth(nested(levels)), levels)
            with self.assertRaises(InvalidProgram):
                Program(SIGNALS[:2], "00", [nested(levels)])
        shared = A_UP
        for _ in range(300):
            shared = ("par", (shared, shared))
        self.assertFalse(is_well_formed(shared, 2))


class Depth(unittest.TestCase):
    def test_each_kind(self):
        self.assertEqual(depth(A_UP), 1)
        for make in (seq, par, choice):
            self.assertEqual(depth(make("a+", "b+")), 2)
            self.assertEqual(depth(make("a+", par("a+", "b+"), "c+")), 3)
            self.assertEqual(depth(make(choice("a+", par("a+", "b+")), par("a+", "b+"))), 4)
            self.assertEqual(depth(make(par("a+", "b+"), choice("a+", par("a+", "b+")), "c+")), 4)


class Programs(unittest.TestCase):
    def rejected(self, signals, start, loops):
        try:
            program = Program(signals, start, loops)
        except InvalidProgram:
            return True
        self.assertEqual((program.signals, program.start, program.loops), (tuple(signals), start, tuple(loops)))
        self.assertEqual(program.initial, tuple(loops))
        return False

    def test_signals(self):
        loop = [A_UP]
        for name, expected in (("a", False), ("abcdefghijkl", False), ("abcdefghijklm", True), ("", True), ("A", True),
                               ("a1", False), ("1a", True), ("a_", True), ("aB", True)):
            self.assertEqual(self.rejected([(name, "input")], "0", loop), expected, name)
        for kind, expected in (("input", False), ("output", False), ("inner", False), ("wire", True), ("", True)):
            self.assertEqual(self.rejected([("a", kind)], "0", loop), expected, kind)
        self.assertTrue(self.rejected([("a", "input"), ("a", "output")], "00", loop))
        names = [(f"x{k}", "input") for k in range(9)]
        self.assertFalse(self.rejected(names[:8], "0" * 8, loop))
        self.assertTrue(self.rejected(names, "0" * 9, loop))

    def test_start_codes(self):
        for start, expected in (("00", False), ("11", False), ("0", True), ("000", True), ("", True), ("0-", True),
                                ("02", True)):
            self.assertEqual(self.rejected(SIGNALS[:2], start, [A_UP]), expected, start)

    def test_the_number_of_loops(self):
        for count in range(8):
            self.assertEqual(self.rejected(SIGNALS[:1], "0", [A_UP] * count), not 1 <= count <= 4)

    def test_loops_that_are_not_well_formed(self):
        for wrong in (C_UP, ("edge", 0, 2), ("edge", -1, 1), ("par", (A_UP,)), ("seq", ()), nested(13),
                      seq(seq("a+", "b+"), "a-"), par("a+", seq("a-", seq("a+", "b+"))), choice("a+", "c+")):
            for loops in ([wrong], [A_UP, wrong], [wrong, A_UP], [A_UP, B_UP, wrong, A_UP]):
                self.assertTrue(self.rejected(SIGNALS[:2], "00", loops))
        self.assertFalse(self.rejected(SIGNALS[:2], "00", [nested(12)]))

    def test_no_signals(self):
        self.assertTrue(self.rejected([], "", []))
        self.assertTrue(self.rejected([], "", [A_UP]))

    def test_lists_are_copied(self):
        signals, loops = list(SIGNALS[:2]), [A_UP, B_UP]
        program = Program(signals, "01", loops)
        signals.append(("x", "input"))
        signals[0] = ("y", "output")
        loops[0] = C_UP
        loops.append(A_DOWN)
        self.assertEqual(program.signals, tuple(SIGNALS[:2]))
        self.assertEqual(program.loops, (A_UP, B_UP))
        self.assertEqual(program.initial, (A_UP, B_UP))
        self.assertEqual([one for one, _ in program.steps(program.initial)], [(0, 1), (1, 1)])


class Steps(unittest.TestCase):
    def test_an_edge(self):
        self.assertEqual(steps(edge("b-")), [((1, 0), None)])

    def test_a_sequence(self):
        self.assertEqual(steps(seq("a+", "b+")), [((0, 1), B_UP)])
        self.assertEqual(steps(seq("a+", "b+", "c+")), [((0, 1), seq("b+", "c+"))])
        self.assertEqual(steps(seq("a+", par("b+", "c+"))), [((0, 1), par("b+", "c+"))])
        self.assertEqual(steps(seq(*["a+"] * 8)), [((0, 1), seq(*["a+"] * 7))])

    def test_a_sequence_after_branches(self):
        self.assertEqual(steps(seq(par("a+", "b+"), "c+")), [((0, 1), seq("b+", "c+")), ((1, 1), seq("a+", "c+"))])
        self.assertEqual(steps(seq(par("a+", "b+", "d+"), "c+", "a-"))[1], ((1, 1), seq(par("a+", "d+"), "c+", "a-")))

    def test_a_sequence_whose_first_part_becomes_a_sequence(self):
        process = seq(choice(seq("a+", "b+", "c+"), "b-"), "a-", "c-")
        self.assertEqual(steps(process), [((0, 1), seq("b+", "c+", "a-", "c-")), ((1, 0), seq("a-", "c-"))])
        process = seq(par("a+", seq("b+", "c+")), "a-")
        self.assertEqual(steps(process), [((0, 1), seq("b+", "c+", "a-")),
                                          ((1, 1), seq(par("a+", "c+"), "a-"))])
        process = seq(choice(seq("a+", "b+"), "b-"), "a-")
        self.assertEqual(steps(process), [((0, 1), seq("b+", "a-")), ((1, 0), A_DOWN)])

    def test_a_remaining_sequence_of_many_parts(self):
        process = seq(choice(seq(*["a+"] * 8), "b-"), *["b+"] * 7)
        [(first, after), (second, other)] = steps(process)
        self.assertEqual((first, second), ((0, 1), (1, 0)))
        self.assertEqual(after, seq(*["a+"] * 7, *["b+"] * 7))
        self.assertEqual(other, seq(*["b+"] * 7))
        self.assertEqual(steps(after), [((0, 1), seq(*["a+"] * 6, *["b+"] * 7))])

    def test_branches(self):
        self.assertEqual(steps(par("a+", "b+")), [((0, 1), B_UP), ((1, 1), A_UP)])
        self.assertEqual(steps(par("a+", "b+", "c+")),
                         [((0, 1), par("b+", "c+")), ((1, 1), par("a+", "c+")), ((2, 1), par("a+", "b+"))])
        self.assertEqual(steps(par(seq("a+", "a-"), "b+")), [((0, 1), par("a-", "b+")), ((1, 1), seq("a+", "a-"))])
        self.assertEqual(steps(par("b+", choice("a+", "c+"))),
                         [((1, 1), choice("a+", "c+")), ((0, 1), B_UP), ((2, 1), B_UP)])
        self.assertEqual(steps(par("b+", par("a+", "c+"))),
                         [((1, 1), par("a+", "c+")), ((0, 1), par("b+", "c+")), ((2, 1), par("b+", "a+"))])

    def test_branches_in_branches_stay(self):
        process = par("b+", par("a+", "c+", "a-"))
        self.assertEqual(steps(process)[1], ((0, 1), par("b+", par("c+", "a-"))))

    def test_a_choice(self):
        self.assertEqual(steps(choice("a+", "b+", "c+")), [((0, 1), None), ((1, 1), None), ((2, 1), None)])
        process = choice(seq("a+", "b+"), par("c+", "a-"), choice("b-", "c-"))
        self.assertEqual(steps(process), [((0, 1), B_UP), ((2, 1), A_DOWN), ((0, 0), C_UP), ((1, 0), None),
                                          ((2, 0), None)])

    def test_a_step_that_occurs_twice(self):
        self.assertEqual(steps(choice("a+", "a+")), [((0, 1), None), ((0, 1), None)])
        self.assertEqual(steps(par("a+", "a+")), [((0, 1), A_UP), ((0, 1), A_UP)])
        self.assertEqual(steps(seq(choice("a+", "a+"), "b+")), [((0, 1), B_UP), ((0, 1), B_UP)])

    def test_lists_are_new(self):
        process = par("a+", "b+")
        steps(process).clear()
        self.assertEqual(len(steps(process)), 2)

    def test_runs(self):
        for seed in range(120):
            process = random_process(random.Random(seed), 4, most=2)
            expected = runs(process)
            if len(expected) < 3000:
                self.assertEqual(runs_by_steps(process, steps), expected)

    def test_what_remains_is_a_process(self):
        """No part of a sequence is a sequence, and there are at least two parts."""
        def check(process):
            if process[0] != "edge":
                self.assertGreaterEqual(len(process[1]), 2)
                self.assertFalse(process[0] == "seq" and "seq" in [part[0] for part in process[1]])
                for part in process[1]:
                    check(part)

        for seed in range(60):
            waiting = [random_process(random.Random(seed), 5)]
            for _ in range(200):
                if waiting:
                    process = waiting.pop()
                    check(process)
                    waiting += [left for _, left in steps(process) if left is not None]


class ProgramSteps(unittest.TestCase):
    def test_loop_by_loop(self):
        program = Program(SIGNALS[:3], "000", [seq("a+", "a-"), choice("b+", "c+"), par("a+", "b+")])
        first, second, third = program.initial
        self.assertEqual(program.steps(program.initial), [
            ((0, 1), (A_DOWN, second, third)), ((1, 1), (first, second, third)), ((2, 1), (first, second, third)),
            ((0, 1), (first, second, B_UP)), ((1, 1), (first, second, A_UP))])

    def test_a_loop_begins_anew(self):
        program = Program(SIGNALS[:1], "0", [seq("a+", "a-")])
        self.assertEqual(program.steps(program.initial), [((0, 1), (A_DOWN,))])
        self.assertEqual(program.steps((A_DOWN,)), [((0, 0), program.initial)])
        program = Program(SIGNALS[:1], "0", [A_UP])
        self.assertEqual(program.steps(program.initial), [((0, 1), (A_UP,))])

    def test_each_loop_begins_anew_by_itself(self):
        program = Program(SIGNALS[:2], "00", [seq("a+", "a-"), seq("b+", "b-")])
        state = (A_DOWN, edge("b-"))
        self.assertEqual(program.steps(state), [((0, 0), (program.loops[0], edge("b-"))),
                                                ((1, 0), (A_DOWN, program.loops[1]))])

    def test_lists_are_new(self):
        program = Program(SIGNALS[:2], "00", [par("a+", "b+")])
        asked = program.steps(program.initial)
        asked.append("later")
        asked[0] = None
        self.assertEqual(program.steps(program.initial), [((0, 1), (B_UP,)), ((1, 1), (A_UP,))])

    def test_a_step_is_a_step_of_one_loop(self):
        for seed in range(40):
            program = random_program(seed, most_loops=3)
            state = program.initial
            for _ in range(12):
                expected = []
                for index, process in enumerate(state):
                    for one, left in steps(process):
                        after = list(state)
                        after[index] = program.loops[index] if left is None else left
                        expected.append((one, tuple(after)))
                self.assertEqual(program.steps(state), expected)
                state = random.Random(seed).choice(expected)[1]
