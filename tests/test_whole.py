"""Points 57, 58, 71, 75, 84 and 86 over the whole program, for each style: designs of specifications and programs."""

import random
import unittest

from clockless.boards import Board
from clockless.compiling import compile_program, follow_program
from clockless.errors import Flawed, Refusal
from clockless.examining import examine, is_certificate
from clockless.explaining import explanation
from clockless.fanin import bounded, fan_in, reduced, widest
from clockless.flow import design, reason
from clockless.graphs import explore
from clockless.nettext import format_netlist, parse_netlist
from clockless.prefixes import unfold
from clockless.configurations import states_of
from clockless.proctext import format_program
from clockless.spectext import format_spec, parse_spec
from clockless.tidying import tidied
from clockless.timing import delays_for, glitches, simulate, wave
from clockless.traces import follow, view
from clockless.translating import translate
from tests.design_samples import STYLES, designs, specs
from tests.process_reference import circuit_program
from tests.test_flow import Replay

LIMIT = 40000


def random_moves(chance, board, length):
    state, moves = board.initial, []
    while len(moves) < length and board.moves(state):
        moves.append(chance.choice(board.moves(state)))
        state = board.after(state, moves[-1])
    return moves


def netlists(made):
    """The netlist of a design, tidied, and, where that is harmless, with bounded fan-in."""
    found = [made.netlist, tidied(made.netlist)]
    ands = [fan_in(gate) for gate in made.netlist.gates if gate is not None and gate[0] == "and"]
    width = max([2, *ands])
    return found + [reduced(netlist, width=width) for netlist in found]


class Designs(unittest.TestCase):
    def test_there_are_enough(self):
        for style in STYLES:
            kinds = [len(made.inserted) for one, made in designs() if one == style]
            self.assertGreater(len(kinds), 36)
            self.assertGreater(kinds.count(1) + kinds.count(2), 8)

    def test_certificates(self):
        """No move is unexpected or hazardous, and no state misses a change."""
        for _, made in designs():
            seen = []
            for netlist in netlists(made):
                if netlist not in seen:
                    seen.append(netlist)
                    board = Board(made.spec, netlist)
                    self.assertTrue(is_certificate(board, examine(board, limit=LIMIT)))

    def test_inner_wires_move_once_between_signals(self):
        for _, made in designs():
            for netlist in netlists(made)[:2]:
                board = Board(made.spec, netlist)
                chance = random.Random(len(netlist))
                moved = []
                for kind, wire in random_moves(chance, board, 60):
                    if kind == "gate" and wire >= netlist.signal_count:
                        self.assertNotIn(wire, moved)
                        moved.append(wire)
                    else:
                        moved = []

    def test_runs_in_time(self):
        for _, made in designs():
            graph = explore(made.spec)
            for netlist in netlists(made)[:3]:
                board = Board(made.spec, netlist)
                chance = random.Random(len(graph))
                delays = [chance.randint(0, 6) for _ in range(50)]
                events = simulate(board, delays, count=40)
                self.assertEqual(glitches(board, delays, count=40), [])
                moves = [move for _, move in events]
                self.assertNotEqual(follow(graph, view(board.trace(moves), signals=range(len(made.spec)))), [])
                last = board.run(moves)[1]
                self.assertEqual("".join(wave(board, events, wire)[-1][1] for wire in range(len(netlist))), last)

    def test_every_order_of_moves_stands_for_delays(self):
        for _, made in designs():
            board = Board(made.spec, tidied(made.netlist))
            moves = random_moves(random.Random(3), board, 30)
            delays = delays_for(board, moves)
            self.assertEqual(simulate(board, delays, count=len(moves)), list(enumerate(moves, start=1)))

    def test_tidied_netlists(self):
        for _, made in designs():
            after = tidied(made.netlist)
            self.assertEqual(tidied(after), after)
            self.assertLessEqual(len(after), len(made.netlist))
            self.assertEqual((after.signals, after.start), (made.netlist.signals, made.netlist.start))

    def test_bounded_fan_in(self):
        """What is returned has no flaw; otherwise the moves lead to one."""
        for _, made in designs():
            small = reduced(made.netlist, width=2)
            self.assertLessEqual(widest(small), 2)
            board = Board(made.spec, small)
            try:
                self.assertEqual(bounded(made.spec, made.netlist, width=2, limit=LIMIT), small)
            except Flawed as error:
                state = board.run(error.moves[:-1])
                shown = [board.flaw_of_move(state, error.moves[-1]), board.flaw_of_state(board.run(error.moves))]
                self.assertIn((error.kind, error.wire), shown)

    def test_written_netlists(self):
        for _, made in designs():
            for netlist in netlists(made):
                self.assertEqual(parse_netlist(format_netlist(netlist)), netlist)


class Refusals(unittest.TestCase):
    def test_each_names_what_happens(self):
        told = {}
        for spec in specs():
            for style in STYLES:
                try:
                    design(spec, style=style, limit=60)
                except Refusal as error:
                    name = error.__class__.__name__
                    told[name] = told.get(name, 0) + 1
                    self.assertEqual(reason(spec, limit=60), name)
                    self.assertEqual(len(explanation(spec, error).split("\n")), 1)
                    self.replay(spec, name, error)
        self.assertGreater(len(told), 3)

    def replay(self, spec, name, error):
        if name in ("Unsafe", "Inconsistent"):
            enabled, doubled, repeated = Replay(spec).fire(*error.sequence[:-1]).faults(error.sequence[-1])
            self.assertTrue(enabled)
            self.assertEqual((name == "Unsafe", name == "Inconsistent"), (bool(doubled), not doubled and repeated))
        elif name == "NotPersistent":
            Replay(spec).fire(*error.sequence, error.disabled)
            self.assertNotIn(spec.edges[error.disabled], Replay(spec).fire(*error.sequence, error.by).edges())
        elif name == "CodeConflict":
            ends = [Replay(spec).fire(*error.first), Replay(spec).fire(*error.second)]
            self.assertEqual(ends[0].code, ends[1].code)
            self.assertNotEqual(ends[0].driven(), ends[1].driven())


class Prefixes(unittest.TestCase):
    def test_they_show_the_states_of_the_graph(self):
        for spec in [made.spec for style, made in designs() if style == "latch"]:
            self.assertEqual(states_of(unfold(spec), limit=LIMIT), sorted(explore(spec)))


class Programs(unittest.TestCase):
    def test_circuits_do_what_programs_say(self):
        compiled = 0
        for seed in range(45, 75):
            program = circuit_program(seed)
            text = format_program(program)
            if reason(translate(program)) is not None:
                continue
            for style in STYLES:
                made = compile_program(text, style=style)
                board = Board(made.spec, made.netlist)
                self.assertTrue(is_certificate(board, examine(board, limit=LIMIT)))
                for most in (0, 5):
                    chance = random.Random(seed + most)
                    moves = random_moves(chance, board, 40)
                    if most:
                        moves = [move for _, move in simulate(board, [chance.randint(0, most) for _ in range(40)],
                                                              count=40)]
                    self.follow(program, board, moves)
                compiled += 1
        self.assertGreater(compiled, 40)

    def follow(self, program, board, moves):
        states = follow_program(program, view(board.trace(moves), signals=range(len(program.signals))))
        self.assertNotEqual(states, [])
        driven = [k for k, (_, kind) in enumerate(program.signals) if kind != "input"]
        demanded = [one for state in states for one, _ in program.steps(state) if one[0] in driven]
        if demanded:
            self.assertNotEqual(board.netlist.excited(board.run(moves)[1]), [])

    def test_written_forms(self):
        for seed in range(40):
            spec = translate(circuit_program(seed))
            self.assertEqual(parse_spec(format_spec(spec)), spec)
