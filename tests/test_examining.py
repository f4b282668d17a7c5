"""Points 53 and 54: examining boards, and certificates."""

import random
import unittest

from clockless.boards import Board
from clockless.building import build
from clockless.checks import is_implementable
from clockless.errors import Flawed, TooLarge
from clockless.examining import examine, is_certificate
from clockless.graphs import explore
from clockless.netlists import Netlist
from clockless.spectext import parse_spec
from tests.board_reference import Flaw, examination
from tests.samples import HANDSHAKE, random_loop, random_machines
from tests.test_boards import PAIR, board_of, handshake
from tests.test_netlists import random_netlist_for

SPLIT = ["gate 1 c 3 5", "gate 2 and 1-", "gate 3 or 2", "gate 4 and 0-", "gate 5 or 4"]


def flaw_found(board, **limit):
    """The fields of the error that an examination raises."""
    try:
        examine(board, **limit)
    except Flawed as error:
        return (error.moves, error.kind, error.wire)
    except TooLarge as error:
        return error.limit
    return None


class Examine(unittest.TestCase):
    def test_the_states_in_the_order_of_their_discovery(self):
        board = handshake("gate 1 atomic 1-")
        self.assertEqual(examine(board), [((0,), "00"), ((1,), "10"), ((2,), "11"), ((3,), "01")])

    def test_moves_of_the_environment_are_taken_first(self):
        board = board_of(PAIR, ["gate 1 atomic ---", "gate 2 atomic ---"])
        self.assertEqual([values for _, values in examine(board)],
                         ["000", "100", "010", "001", "110", "101", "011", "111"])

    def test_inner_wires(self):
        states = examine(handshake(*SPLIT))
        self.assertEqual(states[:6], [((0,), "000011"), ((1,), "100011"), ((1,), "101011"), ((1,), "100001"),
                                      ((1,), "101111"), ((1,), "101001")])
        self.assertEqual(len(states), len(set(states)))
        self.assertEqual(states, examination(handshake(*SPLIT), 1000))

    def test_a_board_without_moves(self):
        board = Board(parse_spec("places 0"), Netlist([], "", []))
        self.assertEqual(examine(board), [((), "")])
        self.assertEqual(examine(board, limit=1), [((), "")])

    def test_a_flaw_of_the_initial_state(self):
        board = board_of(["signal b output 0", "places 1 0", "b+ 0 to"], ["gate 0 atomic"])
        self.assertEqual(flaw_found(board), ([], "missed", 0))
        self.assertEqual(flaw_found(board, limit=1), ([], "missed", 0))

    def test_a_flaw_of_a_later_state(self):
        self.assertEqual(flaw_found(handshake("gate 1 atomic")), ([("input", 0)], "missed", 1))
        self.assertEqual(flaw_found(handshake("gate 1 atomic 1-", "gate 2 or")), None)
        self.assertEqual(flaw_found(handshake("gate 1 atomic 1- -1")),
                         ([("input", 0), ("gate", 1), ("input", 2)], "missed", 1))

    def test_a_flaw_of_a_move(self):
        self.assertEqual(flaw_found(handshake("gate 1 atomic 0-")), ([("input", 0)], "hazard", 1))
        self.assertEqual(flaw_found(board_of(["signal b output 1", "places 0"], ["gate 0 atomic"])),
                         ([("gate", 0)], "unexpected", 0))
        board = board_of(PAIR, ["gate 1 atomic --0", "gate 2 atomic -0-"])
        # The state after the input is new; the flaw of the next move comes before its turn.
        self.assertEqual(flaw_found(board), ([("gate", 1)], "hazard", 2))

    def test_the_moves_that_are_told(self):
        # c+ is not awaited; it is found from the state that a+ and b+ lead to in this order.
        lines = ["signal a input 0", "signal b output 0", "signal c output 0", "places 4 0 1", "a+ 0 to 2", "b+ 1 to 3",
                 "a- 2 3 to"]
        board = board_of(lines, ["gate 1 atomic ---", "gate 2 atomic 11-"])
        self.assertEqual(flaw_found(board), ([("input", 0), ("gate", 1), ("input", 2)], "hazard", 2))
        board = board_of([*lines[:-1]], ["gate 1 atomic ---", "gate 2 atomic 11-"])
        self.assertEqual(flaw_found(board), ([("input", 0), ("gate", 1), ("gate", 2)], "unexpected", 2))

    def test_the_flaw_of_a_state_comes_before_later_moves(self):
        # After a+ the board is quiet although c is awaited; a- would be next.
        lines = ["signal a input 0", "signal c output 0", "places 3 0", "a+ 0 to 1 2", "a- 1 to", "c+ 2 to"]
        self.assertEqual(flaw_found(board_of(lines, ["gate 1 atomic"])), ([("input", 0)], "missed", 1))

    def test_the_flaw_of_a_move_comes_before_the_flaw_of_a_later_state(self):
        # From the initial state a+ leads to a quiet state that misses c, and b- is not awaited.
        lines = ["signal a input 0", "signal b output 0", "signal c output 0", "places 3 0", "a+ 0 to 1", "c+ 1 to"]
        board = board_of(lines, ["gate 1 atomic 0--", "gate 2 atomic"])
        self.assertEqual(flaw_found(board), ([("input", 0)], "hazard", 1))
        board = board_of(lines, ["gate 1 atomic -0-", "gate 2 atomic"])
        self.assertEqual(flaw_found(board), ([("gate", 1)], "unexpected", 1))

    def test_a_limit_that_is_met_exactly(self):
        for board, count in ((handshake("gate 1 atomic 1-"), 4), (handshake(*SPLIT), len(examine(handshake(*SPLIT)))),
                             (board_of(PAIR, ["gate 1 atomic ---", "gate 2 atomic ---"]), 8)):
            self.assertEqual(len(examine(board, limit=count)), count)
            self.assertEqual(flaw_found(board, limit=count - 1), count - 1)
            self.assertEqual(flaw_found(board, limit=1), 1)

    def test_a_flaw_before_the_limit_is_passed(self):
        board = handshake("gate 1 atomic")
        self.assertEqual(flaw_found(board, limit=1), 1)
        self.assertEqual(flaw_found(board, limit=2), ([("input", 0)], "missed", 1))
        # The flaw of a move comes before the state after it.
        self.assertEqual(flaw_found(handshake("gate 1 atomic 0-"), limit=1), ([("input", 0)], "hazard", 1))
        board = handshake("gate 1 atomic 1- -1")
        self.assertEqual([flaw_found(board, limit=k) for k in (1, 2, 3)], [1, 2, 3])
        self.assertEqual(flaw_found(board, limit=4), ([("input", 0), ("gate", 1), ("input", 2)], "missed", 1))
        # The first move leads to a new state that the limit does not allow; the second one would be unexpected.
        board = handshake("gate 1 atomic -0")
        self.assertEqual(flaw_found(board, limit=1), 1)
        self.assertEqual(flaw_found(board, limit=2), ([("gate", 1)], "unexpected", 1))

    def test_without_a_limit(self):
        # 10000 and 14000 states: rings of inputs side by side.
        for lengths, found in (((10, 10, 10, 10), None), ((10, 10, 10, 14), 10000)):
            lines, first = [f"signal x{k} input 0" for k in range(4)], 0
            lines.append(f"places {sum(lengths)} " + " ".join(str(sum(lengths[:k])) for k in range(4)))
            for signal, length in enumerate(lengths):
                for step in range(length):
                    text = f"x{signal}{'+-'[step % 2]}" + (f"/{step // 2 + 1}" if step > 1 else "")
                    lines.append(f"{text} {first + step} to {first + (step + 1) % length}")
                first += length
            board = board_of(lines, [])
            self.assertEqual(flaw_found(board), found)

    def test_the_returned_list_is_new(self):
        board = handshake("gate 1 atomic 1-")
        examine(board).clear()
        self.assertEqual(len(examine(board)), 4)

    def test_against_the_words_of_the_document(self):
        kinds = {}
        for board in some_boards():
            for limit in (3, 12, 300):
                try:
                    expected, found = examination(board, limit), None
                    self.assertEqual(examine(board, limit=limit), expected)
                except Flaw as flaw:
                    found = limit if flaw.args == ("TooLarge",) else flaw.args
                    self.assertEqual(flaw_found(board, limit=limit), found)
                kind = found[1] if isinstance(found, tuple) else found is None
                kinds[kind] = kinds.get(kind, 0) + 1
        self.assertEqual(len(kinds), 5)
        self.assertGreater(min(kinds.values()), 10, kinds)


def some_boards():
    """Boards of netlists that were built, of such netlists with one gate changed, and of random netlists."""
    boards = []
    for seed in range(300):
        spec = random_machines(seed) if seed % 3 else random_loop(seed)
        graph, chance = explore(spec), random.Random(seed)
        boards.append(Board(spec, random_netlist_for(chance, spec.signals, spec.start)))
        if not is_implementable(graph) or len(spec.driven) == 0:
            continue
        netlist = build(graph, style=chance.choice(["atomic", "latch", "split"]))
        boards.append(Board(spec, netlist))
        gates = list(netlist.gates)
        wire = chance.choice([k for k, gate in enumerate(gates) if gate is not None])
        cube = "".join(chance.choice("01--") for _ in spec.signals)
        gates[wire] = ("atomic", (cube,)) if wire < len(spec) else ("and", cube)
        boards.append(Board(spec, Netlist(netlist.signals, netlist.start, gates)))
    return boards


class Certificates(unittest.TestCase):
    def test_the_states_of_an_examination(self):
        for board in (handshake("gate 1 atomic 1-"), handshake(*SPLIT), handshake("gate 1 latch 1- to 0-")):
            self.assertTrue(is_certificate(board, examine(board)))

    def test_a_state_left_out(self):
        for board in (handshake("gate 1 atomic 1-"), handshake(*SPLIT)):
            states = examine(board)
            for index in range(len(states)):
                self.assertFalse(is_certificate(board, states[:index] + states[index + 1:]))
            self.assertFalse(is_certificate(board, []))

    def test_states_doubled_and_in_another_order(self):
        board = handshake("gate 1 atomic 1-")
        states = examine(board)
        self.assertTrue(is_certificate(board, states + states[1:3]))
        self.assertTrue(is_certificate(board, states[::-1]))
        self.assertTrue(is_certificate(board, [states[2], states[2], states[0], states[3], states[1], states[0]]))

    def test_further_states(self):
        # States that are never reached may be in the list, if they have no flaw and their states are there.
        board = handshake("gate 1 atomic 1-")
        states = examine(board)
        self.assertTrue(is_certificate(board, [*states, ((2,), "11")]))
        self.assertTrue(is_certificate(board, [*states, ((), "00")]))
        self.assertTrue(is_certificate(board, [*states, ((), "11"), ((), "00")]))
        self.assertFalse(is_certificate(board, [*states, ((0,), "11")]))

    def test_a_state_with_a_flaw(self):
        board = handshake("gate 1 atomic 1-")
        states = examine(board)
        self.assertEqual(board.moves(((1,), "00")), [])
        self.assertEqual(board.flaw_of_state(((1,), "00")), ("missed", 1))
        self.assertFalse(is_certificate(board, [*states, ((1,), "00")]))

    def test_a_move_with_a_flaw(self):
        board = handshake("gate 1 atomic 1-")
        # The move is unexpected, and the state after it is in the list.
        self.assertEqual(board.flaw_of_move(((), "10"), ("gate", 1)), ("unexpected", 1))
        self.assertTrue(is_certificate(board, [*examine(board), ((), "11")]))
        self.assertFalse(is_certificate(board, [*examine(board), ((), "11"), ((), "10")]))
        board = handshake("gate 1 atomic 0-")
        self.assertFalse(is_certificate(board, [((0,), "00"), ((1,), "10"), ((0,), "01")]))

    def test_the_initial_state_is_missing(self):
        board = board_of(["signal a input 0", "places 2 0", "a+ 0 to 1"], [])
        self.assertTrue(is_certificate(board, [((0,), "0"), ((1,), "1")]))
        self.assertFalse(is_certificate(board, [((1,), "1")]))

    def test_boards_with_a_flaw_have_no_certificate(self):
        for board in some_boards()[:200]:
            try:
                self.assertTrue(is_certificate(board, examine(board, limit=200)))
            except Flawed:
                self.assertFalse(is_certificate(board, reachable(board, 200)))
            except TooLarge:
                pass

    def test_the_list_stays_as_it_was(self):
        board = handshake("gate 1 atomic 1-")
        states = examine(board)
        is_certificate(board, states)
        self.assertEqual(states, examine(board))


def reachable(board, most):
    """Reachable states of the board, whether they have flaws or not."""
    states = [board.initial]
    for state in states:
        for move in board.moves(state):
            if board.after(state, move) not in states and len(states) < most:
                states.append(board.after(state, move))
    return states
