"""Points 85 and 86: compiling programs, what compiled programs guarantee, and following programs along traces."""

import functools
import random
import unittest

from clockless.boards import Board
from clockless.compiling import compile_program, follow_program
from clockless.errors import (ClocklessError, CodeConflict, Inconsistent, InvalidNet, InvalidText, Nondeterministic,
                              NotPersistent, NotTranslatable, Refusal, TooLarge)
from clockless.flow import Design, design
from clockless.nettext import format_netlist
from clockless.processes import Program
from clockless.proctext import format_program, parse_program
from clockless.tidying import tidied
from clockless.timing import glitches, simulate
from clockless.traces import trace_of, view
from clockless.translating import translate
from tests.process_reference import SIGNALS, choice, circuit_program, edge, par, random_program, seq
from tests.samples import HANDSHAKE

STYLES = ("atomic", "latch", "split")
AB = ["signal a input 0", "signal b output 0"]
ABC = [*AB, "signal c output 0"]


def text_of(*lines):
    return "\n".join(lines)


def error_of(text, **options):
    """The error that compiling raises, or None."""
    try:
        compile_program(text, **options)
    except ClocklessError as error:
        return error
    return None


class Compiled(unittest.TestCase):
    def test_a_handshake(self):
        made = compile_program(text_of(*AB, "loop a+ ; b+ ; a- ; b-"))
        self.assertIsInstance(made, Design)
        self.assertEqual(format_netlist(made.netlist), text_of(*AB, "gate 1 c 2 3", "gate 2 and 1-", "gate 3 and 0-"))
        self.assertEqual((made.refined, made.inserted), (made.spec, ()))
        self.assertEqual(made.spec.net.transitions, (((0,), (1,)), ((1,), (2,)), ((2,), (3,)), ((3,), (0,))))
        self.assertEqual(made.spec.edges, ((0, 1), (1, 1), (0, 0), (1, 0)))

    def test_each_style(self):
        text = text_of(*ABC, "loop a+ ; ( b+ | c+ ) ; a- ; ( b- | c- )")
        spec = translate(parse_program(text))
        for style in STYLES:
            made = compile_program(text, style=style)
            self.assertEqual(made.spec, spec)
            self.assertEqual(made.netlist, tidied(design(spec, style=style).netlist))
        self.assertEqual(compile_program(text).netlist, compile_program(text, style="split").netlist)
        self.assertNotEqual(compile_program(text, style="latch").netlist, compile_program(text).netlist)

    def test_inserted_signals(self):
        text = text_of(*ABC, "loop a+ ; b+ ; b- ; c+ ; a- ; c-")
        made = compile_program(text)
        self.assertEqual(made.inserted, ("s0",))
        self.assertEqual(made.refined, design(translate(parse_program(text))).refined)
        self.assertEqual(made.netlist.signals, (*made.spec.signals, ("s0", "inner")))

    def test_rounds(self):
        text = text_of(*ABC, "loop b+ ; b- ; c+ ; c-")
        self.assertEqual(error_of(text, rounds=0).__class__, CodeConflict)
        self.assertEqual(compile_program(text, rounds=1).inserted, ("s0",))
        text = text_of(*ABC, "signal d output 0", "loop b+ ; b- ; c+ ; c- ; d+ ; d-")
        self.assertEqual(error_of(text, rounds=1).__class__, CodeConflict)
        self.assertEqual(compile_program(text, rounds=2).inserted, ("s0", "s1"))
        self.assertEqual(compile_program(text).inserted, ("s0", "s1"))
        lines = [f"signal {name} output 0" for name in "abcde"]
        text = text_of(*lines, "loop a+ ; a- ; b+ ; b- ; c+ ; c-", "loop d+ ; d- ; e+ ; e-")
        self.assertEqual([error_of(text).__class__, error_of(text, rounds=2).__class__], [CodeConflict] * 2)
        self.assertEqual(compile_program(text, rounds=3).inserted, ("s0", "s1", "s2"))

    def test_the_limit(self):
        text = text_of(*AB, "loop a+ ; b+ ; a- ; b-")
        self.assertEqual(compile_program(text, limit=4).netlist, compile_program(text).netlist)
        self.assertEqual(vars(error_of(text, limit=3)), {"limit": 3})

    def test_against_its_steps(self):
        compared = 0
        for seed in range(40):
            text = format_program(circuit_program(seed))
            for rounds in (0, 1, 2):
                try:
                    made = design(translate(parse_program(text)), rounds=rounds)
                except Refusal as error:
                    found = error_of(text, rounds=rounds)
                    self.assertEqual((found.__class__, vars(found)), (error.__class__, vars(error)))
                    continue
                again = compile_program(text, rounds=rounds)
                self.assertEqual((again.spec, again.refined, again.inserted), (made.spec, made.refined, made.inserted))
                self.assertEqual(again.netlist, tidied(made.netlist))
                compared += 1
        self.assertGreater(compared, 40)


class Refused(unittest.TestCase):
    def check(self, error, name, **fields):
        self.assertEqual((error.__class__, vars(error)), (name, fields))

    def test_texts(self):
        self.check(error_of(""), InvalidText, line=1)
        self.check(error_of(text_of(*AB)), InvalidText, line=3)
        self.check(error_of(text_of(*AB, "loop a+ ; c+")), InvalidText, line=3)
        self.check(error_of(HANDSHAKE), InvalidText, line=3)
        self.check(error_of(text_of(*AB, "loop a+", "loop ( a+ )")), InvalidText, line=4)

    def test_loops_that_are_not_closed(self):
        self.check(error_of(text_of(*AB, "loop a+ | b+")), NotTranslatable, loop=0)
        self.check(error_of(text_of(*AB, "loop a+ ; a-", "loop ( a+ | b+ ) ; ( a- | b- )")), NotTranslatable, loop=1)

    def test_nets_that_are_too_large(self):
        eight = " / ".join(["a+"] * 8)
        loop = "loop ( " + " ) / ( ".join([eight] * 8) + " )"
        self.assertEqual(error_of(text_of(*AB, loop, "loop b+ ; b-")).__class__, InvalidNet)
        self.check(error_of(text_of(*AB, loop, "loop a+ | b+")), NotTranslatable, loop=1)
        self.check(error_of(text_of(*AB, loop)), Inconsistent, sequence=[0, 0])

    def test_refusals(self):
        self.check(error_of(text_of(*AB, "loop a+ ; b+ ; a+")), Inconsistent, sequence=[0, 1, 2])
        self.check(error_of(text_of("signal a input 1", "loop a+ ; a-")), Inconsistent, sequence=[0])
        self.check(error_of(text_of(*AB, "loop a+ ; a- / a+ ; b+ ; a- ; b-")), Nondeterministic, sequence=[], first=0,
                   second=2)
        self.check(error_of(text_of(*AB, "loop a+ ; a- / b+ ; b-")), NotPersistent, sequence=[], disabled=0, by=2)
        self.check(error_of(text_of(*ABC, "loop b+ ; b- ; c+ ; c-"), rounds=0), CodeConflict, first=[], second=[0, 1])
        lines = [f"signal x{k} output 0" for k in range(4)] + [f"loop x{k}+ ; x{k}-" for k in range(4)]
        self.check(error_of(text_of(*lines), limit=15), TooLarge, limit=15)
        self.assertIsNone(error_of(text_of(*lines), limit=16))

    def test_without_a_limit(self):
        lines = [f"signal {name} input 0" for name in "abcdefgh"]
        # Each of the first three loops has eight states, the last one four.
        loops = [f"loop {one}+ ; {two}+ ; {one}- ; {two}- ; {one}+ ; {two}+ ; {one}- ; {two}-"
                 for one, two in ("ab", "cd", "ef")]
        self.assertIsNone(error_of(text_of(*lines, *loops)))
        loops.append("loop g+ ; h+ ; g- ; h-")
        self.check(error_of(text_of(*lines, *loops)), TooLarge, limit=1000)

    def test_sequences_are_traces_of_the_program(self):
        loops = [["loop a+ ; b+ / b+ ; a+ ; a+"], ["loop a+ ; b+ ; a- ; b- / a+ ; a-"], ["loop a+ ; b+ ; b- ; a- / b+ ; b-"],
                 ["loop a+ ; ( a- / a- ; b+ ; b- )"], ["loop a+ ; a- ; b+ ; b-", "loop c+ ; c-"], ["loop c+ ; c-", "loop c+"],
                 ["loop c+ ; ( a+ ; a- / b+ ; b- / c- ; c+ ) ; c-"], ["loop b+ ; b- ; ( a+ | c+ ) ; b+ ; ( a- | c- ) ; b-"]]
        programs = [parse_program(text_of(*ABC, *lines)) for lines in loops]
        programs += [make(seed) for seed in range(120) for make in (random_program, circuit_program)]
        told = {}
        for program in programs:
            for limit in (3, 200):
                try:
                    compile_program(format_program(program), rounds=0, limit=limit)
                except Refusal as error:
                    spec = translate(program)
                    name = error.__class__.__name__
                    told[name] = told.get(name, 0) + 1
                    for sequence in self.sequences(error):
                        spec.net.fire_all(sequence)
                        self.assertNotEqual(follow_program(program, trace_of(spec, sequence)), [])
                except InvalidNet:
                    pass
        self.assertEqual(sorted(told), ["CodeConflict", "Inconsistent", "Nondeterministic", "NotPersistent", "TooLarge"])

    def sequences(self, error):
        if isinstance(error, CodeConflict):
            return [error.first, error.second]
        if isinstance(error, Nondeterministic):
            return [[*error.sequence, error.first], [*error.sequence, error.second]]
        if isinstance(error, NotPersistent):
            return [[*error.sequence, error.disabled], [*error.sequence, error.by]]
        return [] if isinstance(error, TooLarge) else [error.sequence]


class Followed(unittest.TestCase):
    def test_one_state(self):
        program = Program(SIGNALS[:2], "00", [seq("a+", "b+", "a-")])
        self.assertEqual(follow_program(program, []), [program.initial])
        self.assertEqual(follow_program(program, [(0, 1)]), [(seq("b+", "a-"),)])
        self.assertEqual(follow_program(program, [(0, 1), (1, 1), (0, 0)]), [program.initial])
        self.assertEqual(follow_program(program, [(0, 1), (1, 1), (0, 0), (0, 1), (1, 1)]), [(edge("a-"),)])

    def test_no_trace(self):
        program = Program(SIGNALS[:2], "00", [seq("a+", "b+", "a-")])
        for trace in ([(1, 1)], [(0, 0)], [(0, 1), (0, 1)], [(0, 1), (0, 0), (1, 1)], [(5, 1)], [(0, 1), (1, 1), (1, 0)]):
            self.assertEqual(follow_program(program, trace), [])

    def test_the_order_of_the_states(self):
        program = Program(SIGNALS[:3], "000", [choice(seq("a+", "c+"), "a+", seq("a+", "b+")), seq("a+", "a-")])
        first, second = program.initial
        self.assertEqual(follow_program(program, [(0, 1)]), [
            (edge("c+"), second), (first, second), (edge("b+"), second), (first, edge("a-"))])
        self.assertEqual(follow_program(program, [(0, 1), (0, 1)]), [
            (edge("c+"), edge("a-")), (edge("c+"), second), (first, second), (edge("b+"), second), (first, edge("a-")),
            (edge("b+"), edge("a-"))])

    def test_no_state_twice(self):
        program = Program(SIGNALS[:2], "00", [par("a+", "a+"), choice("b+", "b+", "b+")])
        self.assertEqual(follow_program(program, [(0, 1)]), [(edge("a+"), program.loops[1])])
        self.assertEqual(follow_program(program, [(1, 1)] * 40), [program.initial])
        branches = ("par", tuple(seq("a+", "b+") for _ in range(8)))
        program = Program(SIGNALS[:2], "00", [branches])
        # After k edges any k of the eight branches may have moved.
        self.assertEqual([len(follow_program(program, [(0, 1)] * k)) for k in range(10)],
                         [1, 1 + 7, 28, 56, 70, 56, 28, 8, 1, 0])

    def test_states_that_are_deep(self):
        process = edge("b+")
        for _ in range(5):
            process = seq("a+", choice("b-", process))
        program = Program(SIGNALS[:2], "00", [choice("b-", process), choice(process, process)])
        states = follow_program(program, [(0, 1), (0, 1), (0, 1)])
        self.assertEqual(len(states), len({repr(state) for state in states}))
        self.assertEqual(states, reference(program, [(0, 1), (0, 1), (0, 1)]))

    def test_against_the_words_of_the_interface(self):
        longest = 0
        for seed in range(150):
            program, chance = random_program(seed, most_loops=3), random.Random(seed)
            trace = []
            for _ in range(8):
                states = follow_program(program, trace)
                self.assertEqual(states, reference(program, trace))
                longest = max(longest, len(states))
                steps = [one for state in states for one, _ in program.steps(state)]
                trace.append(chance.choice(steps))
        self.assertGreater(longest, 8)

    def test_lists_are_new(self):
        program = Program(SIGNALS[:1], "0", [edge("a+")])
        trace = [(0, 1)]
        follow_program(program, trace).clear()
        follow_program(program, []).clear()
        self.assertEqual((follow_program(program, []), trace), ([program.initial], [(0, 1)]))


def reference(program, trace):
    """The states to which steps with this trace lead, in the order in which they are found."""
    states = [program.initial]
    for wanted in trace:
        after = []
        for state in states:
            for one, left in program.steps(state):
                if one == wanted and left not in after:
                    after.append(left)
        states = after
    return states


# Programs with circuits, with one or two inserted signals among them.
WRITTEN = [
    [*AB, "loop a+ ; b+ ; a- ; b-"],
    [*ABC, "loop a+ ; ( b+ | c+ ) ; a- ; ( b- | c- )"],
    ["signal a input 0", "signal b input 0", "signal c output 0", "signal d output 0",
     "loop a+ ; c+ ; a- ; c- / b+ ; d+ ; b- ; d-"],
    [*ABC, "loop a+ ; b+ ; b- ; c+ ; a- ; c-"],
    [*ABC, "signal d output 0", "loop b+ ; b- ; c+ ; c- ; d+ ; d-"],
    [*ABC, "signal d input 1", "loop a+ ; b+ ; a- ; b-", "loop d- ; c+ ; d+ ; c-"],
    ["signal a input 0", "signal b output 0", "signal r output 0", "signal s input 0",
     "loop a+ ; r+ ; s+ ; b+ ; a- ; r- ; s- ; b-"],
    ["signal a input 0", "signal b input 0", "signal c output 0", "loop ( a+ | b+ ) ; c+ ; ( a- | b- ) ; c-"],
]


@functools.lru_cache(maxsize=None)
def compiled():
    """Pairs of a program and a design for it, in each style and with 0, 1 and 2 rounds."""
    programs = [parse_program(text_of(*lines)) for lines in WRITTEN] + [circuit_program(seed) for seed in range(25)]
    found = []
    for program in programs:
        for style in STYLES:
            for rounds in (0, 1, 2):
                error = error_of(format_program(program), style=style, rounds=rounds)
                if error is None:
                    found.append((program, compile_program(format_program(program), style=style, rounds=rounds)))
    return found


class Guarantees(unittest.TestCase):
    def test_there_are_designs_of_each_kind(self):
        counts = {}
        for _, made in compiled():
            counts[len(made.inserted)] = counts.get(len(made.inserted), 0) + 1
        self.assertGreater(min(counts.get(count, 0) for count in range(3)), 2, counts)

    def check(self, program, board, moves):
        """The moves as a trace of the program; in the state after them, what the program demands is due."""
        signals = range(len(program.signals))
        states = follow_program(program, view(board.trace(moves), signals=signals))
        self.assertNotEqual(states, [])
        due = {signal for state in states for (signal, _), _ in program.steps(state)
               if program.signals[signal][1] != "input"}
        excited = board.netlist.excited(board.run(moves)[1])
        if due:
            self.assertNotEqual(excited, [])
        return not excited

    def test_moves_in_many_orders(self):
        quiet = 0
        for program, made in compiled():
            board = Board(made.spec, made.netlist)
            for seed in range(2):
                chance, moves, state = random.Random(seed), [], board.initial
                for _ in range(25):
                    if not board.moves(state):
                        break
                    moves.append(chance.choice(board.moves(state)))
                    excited = board.netlist.excited(state[1])
                    state = board.after(state, moves[-1])
                    # No gate that is excited stops being so before it moves.
                    for wire in excited:
                        self.assertTrue(moves[-1] == ("gate", wire) or board.netlist.is_excited(state[1], wire))
                    if len(moves) % 8 == 0 or not board.netlist.excited(state[1]):
                        quiet += self.check(program, board, moves)
        self.assertGreater(quiet, 100)

    def test_timed_runs(self):
        for program, made in compiled():
            board = Board(made.spec, made.netlist)
            for most in (0, 1, 4, 30):
                chance = random.Random(most)
                delays = [chance.randint(0, most) for _ in range(chance.choice([0, 10, 60]))]
                events = simulate(board, delays, count=30)
                self.assertEqual(glitches(board, delays, count=30), [])
                moves = [move for _, move in events]
                self.check(program, board, moves)

    def test_slow_environments_find_all_outputs_done(self):
        """When all gates have moved, no step of a driven signal is due."""
        for program, made in compiled():
            board = Board(made.spec, made.netlist)
            state, moves = board.initial, []
            chance = random.Random(7)
            for _ in range(30):
                gates = [move for move in board.moves(state) if move[0] == "gate"]
                if not board.moves(state):
                    break
                moves.append(chance.choice(gates or board.moves(state)))
                state = board.after(state, moves[-1])
                if not board.netlist.excited(state[1]):
                    self.assertTrue(self.check(program, board, moves))
