"""Points 49 to 52 and 55: boards, their moves, flaws of moves and states, and traces."""

import random
import unittest

from clockless.boards import Board
from clockless.errors import InvalidBoard, InvalidMove
from clockless.graphs import explore
from clockless.netlists import Netlist
from clockless.nettext import parse_netlist
from clockless.spectext import parse_spec
from clockless.traces import follow, view
from tests.board_reference import after_and_flaw, flaw_of, moves_of
from tests.samples import HANDSHAKE, random_loop, random_machines, ring
from tests.test_netlists import C_GATES, ONE_IN_ONE_OUT, random_netlist_for


def board_of(spec_lines, gate_lines):
    """A board; the lines of the signals are those of the specification."""
    signals = [line for line in spec_lines if line.startswith("signal")]
    return Board(parse_spec("\n".join(spec_lines)), parse_netlist("\n".join([*signals, *gate_lines])))


def handshake(*gate_lines):
    return board_of(HANDSHAKE.split("\n"), gate_lines)


# b and c may rise side by side.
PAIR = ["signal a input 0", "signal b output 0", "signal c output 0", "places 3 0 1 2", "a+ 0 to", "b+ 1 to", "c+ 2 to"]


class Suits(unittest.TestCase):
    def rejected(self, spec, signals, start, gates):
        netlist = Netlist(signals, start, gates)
        try:
            board = Board(spec, netlist)
        except InvalidBoard:
            return True
        self.assertIs(board.spec, spec)
        self.assertIs(board.netlist, netlist)
        return False

    def test_the_signals_of_the_specification(self):
        spec = parse_spec(HANDSHAKE)
        gates = [None, ("atomic", ())]
        self.assertFalse(self.rejected(spec, ONE_IN_ONE_OUT, "00", gates))
        self.assertTrue(self.rejected(spec, [("c", "input"), ("b", "output")], "00", gates))
        self.assertTrue(self.rejected(spec, [("a", "input"), ("c", "output")], "00", gates))
        self.assertTrue(self.rejected(spec, [("b", "input"), ("a", "output")], "00", gates))
        self.assertTrue(self.rejected(spec, [("a", "output"), ("b", "output")], "00", [("atomic", ()), ("atomic", ())]))
        self.assertTrue(self.rejected(spec, [("a", "input"), ("b", "inner")], "00", gates))
        self.assertTrue(self.rejected(spec, [("a", "input"), ("b", "input")], "00", [None, None]))
        self.assertTrue(self.rejected(spec, ONE_IN_ONE_OUT, "10", gates))
        self.assertTrue(self.rejected(spec, ONE_IN_ONE_OUT, "01", gates))
        self.assertTrue(self.rejected(spec, [("b", "output"), ("a", "input")], "00", [("atomic", ()), None]))

    def test_fewer_signals(self):
        spec = parse_spec(HANDSHAKE)
        self.assertTrue(self.rejected(spec, ONE_IN_ONE_OUT[:1], "0", [None]))
        self.assertTrue(self.rejected(spec, [], "", []))

    def test_further_signals(self):
        spec = parse_spec(HANDSHAKE)
        gate = ("atomic", ())
        for start in ("000", "001"):
            self.assertFalse(self.rejected(spec, [*ONE_IN_ONE_OUT, ("x", "inner")], start, [None, gate, gate]))
        self.assertFalse(self.rejected(spec, [*ONE_IN_ONE_OUT, ("x", "inner"), ("y", "inner")], "0000",
                                       [None, gate, gate, gate]))
        self.assertTrue(self.rejected(spec, [*ONE_IN_ONE_OUT, ("x", "output")], "000", [None, gate, gate]))
        self.assertTrue(self.rejected(spec, [*ONE_IN_ONE_OUT, ("x", "input")], "000", [None, gate, None]))
        self.assertTrue(self.rejected(spec, [*ONE_IN_ONE_OUT, ("x", "inner"), ("y", "output")], "0000",
                                      [None, gate, gate, gate]))

    def test_inner_wires(self):
        self.assertFalse(self.rejected(parse_spec(HANDSHAKE), ONE_IN_ONE_OUT, "00", C_GATES))

    def test_no_signals(self):
        self.assertFalse(self.rejected(parse_spec("places 1 0"), [], "", []))
        self.assertTrue(self.rejected(parse_spec("places 1 0"), [("a", "input")], "0", [None]))
        board = Board(parse_spec("places 1 0"), Netlist([], "", []))
        self.assertEqual((board.initial, board.moves(board.initial)), (((0,), ""), []))
        self.assertIsNone(board.flaw_of_state(board.initial))


class Moves(unittest.TestCase):
    def test_the_initial_state(self):
        board = handshake("gate 1 c 3 5", "gate 2 and 1-", "gate 3 or 2", "gate 4 and 0-", "gate 5 or 4")
        self.assertEqual(board.initial, ((0,), "000011"))

    def test_inputs_before_gates_both_ascending(self):
        lines = ["signal a input 0", "signal b output 0", "signal c output 0", "signal d input 0", "places 4 0 1 2",
                 "d+ 0 to", "b+ 1 to", "a+ 2 to", "a+/2 3 to", "c+ 1 to"]
        board = board_of(lines, ["gate 1 atomic -0--", "gate 2 atomic --0-", "gate 4 and 1---", "gate 5 and 0---"])
        self.assertEqual(board.moves(((0, 1, 2), "000001")), [("input", 0), ("input", 2), ("gate", 1), ("gate", 2)])
        self.assertEqual(board.moves(((0, 1, 2), "100001")),
                         [("input", 0), ("input", 2), ("gate", 1), ("gate", 2), ("gate", 4), ("gate", 5)])
        self.assertEqual(board.moves(((1,), "011001")), [("gate", 1), ("gate", 2)])
        self.assertEqual(board.moves(((3,), "000110")), [("input", 3), ("gate", 1), ("gate", 2), ("gate", 4), ("gate", 5)])

    def test_a_move_of_the_environment(self):
        board = handshake("gate 1 c 3 5", "gate 2 and 1-", "gate 3 or 2", "gate 4 and 0-", "gate 5 or 4")
        self.assertEqual(board.after(((0,), "000011"), ("input", 0)), ((1,), "100011"))
        self.assertEqual(board.after(((2,), "111100"), ("input", 2)), ((3,), "011100"))
        # The value of the edge is taken also where the wire has it already.
        self.assertEqual(board.after(((0,), "100011"), ("input", 0)), ((1,), "100011"))

    def test_a_move_of_a_signal(self):
        board = handshake("gate 1 atomic 1-")
        self.assertEqual(board.after(((1,), "10"), ("gate", 1)), ((2,), "11"))
        self.assertEqual(board.after(((3,), "01"), ("gate", 1)), ((0,), "00"))

    def test_an_unexpected_move_leaves_the_marking(self):
        board = handshake("gate 1 atomic 0-")
        self.assertEqual(board.after(((0,), "00"), ("gate", 1)), ((0,), "01"))
        # An edge with the other value is enabled.
        self.assertEqual(board.after(((3,), "00"), ("gate", 1)), ((3,), "01"))
        # b- is enabled in the marking, and the move is b+.
        self.assertEqual(board.flaw_of_move(((3,), "00"), ("gate", 1)), ("unexpected", 1))

    def test_a_move_of_an_inner_wire(self):
        board = handshake("gate 1 c 3 5", "gate 2 and 1-", "gate 3 or 2", "gate 4 and 0-", "gate 5 or 4")
        self.assertEqual(board.after(((1,), "100011"), ("gate", 2)), ((1,), "101011"))
        self.assertEqual(board.after(((1,), "100011"), ("gate", 4)), ((1,), "100001"))

    def test_a_move_of_a_further_signal(self):
        signals = [*ONE_IN_ONE_OUT, ("x", "inner")]
        board = Board(parse_spec(HANDSHAKE), Netlist(signals, "000", [None, ("atomic", ()), ("atomic", ("--0",))]))
        self.assertEqual(board.moves(board.initial), [("input", 0), ("gate", 2)])
        self.assertEqual(board.after(board.initial, ("gate", 2)), ((0,), "001"))
        self.assertIsNone(board.flaw_of_move(board.initial, ("gate", 2)))

    def test_the_smallest_enabled_transition_fires(self):
        lines = ["signal a input 0", "signal b output 0", "places 5 0", "b+ 4 to 1", "b+/2 0 to 2", "b+/3 0 to 3"]
        board = board_of(lines, ["gate 1 atomic -0"])
        self.assertEqual(board.after(board.initial, ("gate", 1)), ((2,), "01"))
        self.assertEqual(board.after(((0, 4), "00"), ("gate", 1)), ((0, 1), "01"))

    def test_moves_that_are_not_possible(self):
        board = handshake("gate 1 c 3 5", "gate 2 and 1-", "gate 3 or 2", "gate 4 and 0-", "gate 5 or 4")
        state = ((1,), "100011")
        self.assertEqual(board.moves(state), [("gate", 2), ("gate", 4)])
        for move in (("input", 0), ("input", 1), ("input", 2), ("input", 9), ("gate", 0), ("gate", 1), ("gate", 3),
                     ("gate", 5), ("gate", 6), ("gate", -2), ("input", -4)):
            with self.assertRaises(InvalidMove) as caught:
                board.after(state, move)
            self.assertEqual(caught.exception.move, move)

    def test_a_driven_transition_is_no_move_of_the_environment(self):
        board = handshake("gate 1 atomic 1-")
        self.assertEqual(board.moves(((1,), "11")), [])
        with self.assertRaises(InvalidMove):
            board.after(((1,), "11"), ("input", 1))

    def test_returned_lists_are_new(self):
        board = handshake("gate 1 atomic 0-")
        board.moves(board.initial).clear()
        self.assertEqual(board.moves(board.initial), [("input", 0), ("gate", 1)])


class FlawsOfMoves(unittest.TestCase):
    def test_no_flaw(self):
        board = handshake("gate 1 atomic 1-")
        for state, move in ((((0,), "00"), ("input", 0)), (((1,), "10"), ("gate", 1)), (((2,), "11"), ("input", 2)),
                            (((3,), "01"), ("gate", 1))):
            self.assertIsNone(board.flaw_of_move(state, move))

    def test_unexpected(self):
        board = handshake("gate 1 atomic 0-")
        self.assertEqual(board.flaw_of_move(board.initial, ("gate", 1)), ("unexpected", 1))

    def test_a_move_of_the_environment_is_hazardous(self):
        board = handshake("gate 1 atomic 0-")
        self.assertEqual(board.flaw_of_move(board.initial, ("input", 0)), ("hazard", 1))

    def test_a_move_of_a_gate_is_hazardous(self):
        board = board_of(PAIR, ["gate 1 atomic --0", "gate 2 atomic -0-"])
        self.assertEqual(board.flaw_of_move(board.initial, ("gate", 1)), ("hazard", 2))
        self.assertEqual(board.flaw_of_move(board.initial, ("gate", 2)), ("hazard", 1))
        self.assertIsNone(board.flaw_of_move(board.initial, ("input", 0)))

    def test_unexpected_and_hazardous(self):
        lines = [*PAIR[:3], "places 3 0", "a+ 0 to", "b+ 1 to", "c+ 2 to"]
        board = board_of(lines, ["gate 1 atomic --0", "gate 2 atomic -0-"])
        self.assertEqual(board.flaw_of_move(board.initial, ("gate", 1)), ("unexpected", 1))
        self.assertEqual(board.flaw_of_move(board.initial, ("gate", 2)), ("unexpected", 2))

    def test_the_smallest_stopped_wire(self):
        lines = ["signal a input 0", "signal b output 0", "signal c output 0", "signal d output 0", "places 1 0", "a+ 0 to"]
        board = board_of(lines, ["gate 1 atomic ---0", "gate 2 atomic 0---", "gate 3 atomic 0---", "gate 4 and 0---"])
        self.assertEqual(board.moves(((0,), "00000")),
                         [("input", 0), ("gate", 1), ("gate", 2), ("gate", 3), ("gate", 4)])
        self.assertEqual(board.flaw_of_move(((0,), "00000"), ("input", 0)), ("hazard", 2))
        self.assertEqual(board.flaw_of_move(((0,), "01100"), ("input", 0)), ("hazard", 3))
        self.assertEqual(board.flaw_of_move(((0,), "01110"), ("input", 0)), ("hazard", 4))
        self.assertEqual(board.flaw_of_move(((0,), "00110"), ("input", 0)), ("hazard", 4))

    def test_a_stopped_inner_wire(self):
        board = handshake("gate 1 atomic", "gate 2 and 0-", "gate 3 or 2")
        self.assertEqual(board.flaw_of_move(((0,), "0001"), ("input", 0)), ("hazard", 2))
        self.assertEqual(board.flaw_of_move(((0,), "0001"), ("gate", 2)), ("hazard", 3))
        self.assertIsNone(board.flaw_of_move(((0,), "0010"), ("input", 0)))

    def test_the_moving_gate_is_not_stopped_by_itself(self):
        board = handshake("gate 1 atomic", "gate 2 and 0-")
        self.assertIsNone(board.flaw_of_move(((0,), "000"), ("gate", 2)))
        # It may even be excited again.
        board = board_of(["signal b output 0", "places 1 0", "b+ 0 to"], ["gate 0 atomic 0"])
        self.assertIsNone(board.flaw_of_move(board.initial, ("gate", 0)))
        self.assertEqual(board.moves(board.after(board.initial, ("gate", 0))), [("gate", 0)])

    def test_a_gate_that_becomes_excited_is_no_hazard(self):
        board = handshake("gate 1 atomic 1-", "gate 2 and 1-")
        self.assertIsNone(board.flaw_of_move(((0,), "000"), ("input", 0)))


class FlawsOfStates(unittest.TestCase):
    def test_a_missed_change(self):
        board = handshake("gate 1 atomic")
        self.assertEqual(board.flaw_of_state(((1,), "10")), ("missed", 1))
        self.assertIsNone(board.flaw_of_state(((0,), "00")))
        self.assertIsNone(board.flaw_of_state(((2,), "10")))

    def test_a_state_that_is_not_quiet(self):
        board = handshake("gate 1 atomic 1-")
        self.assertIsNone(board.flaw_of_state(((1,), "10")))
        self.assertEqual(board.flaw_of_state(((1,), "11")), ("missed", 1))
        # An excited inner wire is enough.
        board = handshake("gate 1 atomic", "gate 2 and 1-")
        self.assertIsNone(board.flaw_of_state(((1,), "100")))
        self.assertEqual(board.flaw_of_state(((1,), "101")), ("missed", 1))

    def test_the_smallest_signal(self):
        lines = [*PAIR[:3], "places 3 0 1 2", "c+ 0 to", "a+ 1 to", "b+ 2 to"]
        board = board_of(lines, ["gate 1 atomic", "gate 2 atomic"])
        self.assertEqual(board.flaw_of_state(board.initial), ("missed", 1))
        self.assertEqual(board.flaw_of_state(((0, 1), "000")), ("missed", 2))
        self.assertIsNone(board.flaw_of_state(((1,), "000")))
        self.assertIsNone(board.flaw_of_state(((), "000")))

    def test_inner_signals_are_awaited_too(self):
        lines = ["signal b inner 0", "places 1 0", "b+ 0 to"]
        self.assertEqual(board_of(lines, ["gate 0 atomic"]).flaw_of_state(((0,), "0")), ("missed", 0))


class Runs(unittest.TestCase):
    def setUp(self):
        self.board = handshake("gate 1 c 3 5", "gate 2 and 1-", "gate 3 or 2", "gate 4 and 0-", "gate 5 or 4")
        self.moves = [("input", 0), ("gate", 4), ("gate", 2), ("gate", 3), ("gate", 5), ("gate", 1), ("input", 2)]

    def test_run(self):
        self.assertEqual(self.board.run([]), self.board.initial)
        self.assertEqual(self.board.run(self.moves[:3]), ((1,), "101001"))
        self.assertEqual(self.board.run(self.moves), ((3,), "011100"))

    def test_trace(self):
        self.assertEqual(self.board.trace([]), [])
        self.assertEqual(self.board.trace(self.moves[:1]), [(0, 1)])
        self.assertEqual(self.board.trace(self.moves[:5]), [(0, 1)])
        self.assertEqual(self.board.trace(self.moves), [(0, 1), (1, 1), (0, 0)])

    def test_trace_with_inputs_of_several_transitions_and_unexpected_moves(self):
        board = handshake("gate 1 atomic 0-")
        self.assertEqual(board.trace([("gate", 1), ("input", 0), ("gate", 1)]), [(1, 1), (0, 1), (1, 0)])

    def test_trace_of_further_signals(self):
        signals = [*ONE_IN_ONE_OUT, ("x", "inner")]
        gates = [None, ("atomic", ("--1",)), ("atomic", ("1--",)), ("and", "1--")]
        board = Board(parse_spec(HANDSHAKE), Netlist(signals, "000", gates))
        moves = [("input", 0), ("gate", 3), ("gate", 2), ("gate", 1), ("input", 2), ("gate", 2), ("gate", 1)]
        self.assertEqual(board.trace(moves), [(0, 1), (2, 1), (1, 1), (0, 0), (2, 0), (1, 0)])

    def test_a_move_that_is_not_possible(self):
        for ask in (self.board.run, self.board.trace):
            for moves, wrong in (([("gate", 1)], ("gate", 1)), ([*self.moves, ("input", 0)], ("input", 0)),
                                 ([("input", 0), ("gate", 3), ("gate", 9)], ("gate", 3))):
                with self.assertRaises(InvalidMove) as caught:
                    ask(moves)
                self.assertEqual(caught.exception.move, wrong)

    def test_the_list_of_moves_stays_as_it_was(self):
        moves = list(self.moves)
        self.board.run(moves)
        self.board.trace(moves)
        self.assertEqual(moves, self.moves)


class Reference(unittest.TestCase):
    def test_against_the_words_of_the_document(self):
        flaws = {}
        for seed in range(250):
            spec = random_machines(seed) if seed % 2 else random_loop(seed)
            chance = random.Random(seed)
            netlist = random_netlist_for(chance, spec.signals, spec.start)
            board = Board(spec, netlist)
            state, path = board.initial, []
            for _ in range(12):
                self.assertEqual(board.moves(state), moves_of(board, state))
                self.assertEqual(board.flaw_of_state(state), flaw_of(board, state))
                flaws["state", flaw_of(board, state) is None] = True
                for move in moves_of(board, state):
                    after, flaw = after_and_flaw(board, state, move)
                    self.assertEqual((board.after(state, move), board.flaw_of_move(state, move)), (after, flaw))
                    flaws[flaw and flaw[0]] = True
                if not board.moves(state):
                    break
                path.append(chance.choice(board.moves(state)))
                state = board.after(state, path[-1])
                self.assertEqual(board.run(path), state)
        self.assertEqual(len(flaws), 5)

    def test_the_view_of_a_trace_without_flaws_is_a_trace(self):
        spec = ring("a+ b+ c+ a- b- c-", kinds="ino")
        signals = [*spec.signals, ("x", "inner")]
        gates = [None, ("atomic", ("---1",)), ("atomic", ("-1--",)), ("atomic", ("1---",)), ("and", "1---")]
        board = Board(spec, Netlist(signals, "0000", gates))
        graph = explore(spec)
        chance = random.Random(1)
        for _ in range(30):
            state, path = board.initial, []
            for _ in range(12):
                path.append(chance.choice(board.moves(state)))
                if board.flaw_of_move(state, path[-1]) is not None:
                    path.pop()
                    continue
                state = board.after(state, path[-1])
                trace = view(board.trace(path), signals=[0, 1, 2])
                self.assertEqual(follow(graph, trace), [graph.state_at(state[0], state[1][:3])])
