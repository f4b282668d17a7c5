"""Points 70 to 73: timed runs, events and glitches, delays for a list of moves, waves."""

import random
import unittest

from clockless.boards import Board
from clockless.errors import InvalidMove
from clockless.flow import reason, synthesise
from clockless.netlists import Netlist
from clockless.spectext import parse_spec
from clockless.timing import delays_for, glitches, simulate, wave
from clockless.traces import follow, view
from clockless.graphs import explore
from tests.board_reference import after_and_flaw, moves_of
from tests.samples import HANDSHAKE, random_loop, random_machines
from tests.test_boards import board_of, handshake
from tests.test_netlists import random_netlist_for

STYLES = ("atomic", "latch", "split")
FREE = ["signal a input 0", "signal b input 0", "signal c output 0", "places 3 0 1", "a+ 0 to 2", "b+ 1 to", "a- 2 to 0"]


def reference_run(board, delays, count):
    """The events and the dropped moves of gates, straight from the words of points 70 and 71."""
    state, now, waiting = board.initial, 0, list(delays)
    pending, events, dropped = [], [], []
    while True:
        for move in moves_of(board, state):
            if move not in [one for one, _ in pending]:
                pending.append((move, now + (waiting.pop(0) if waiting else 1)))
        if not pending or len(events) == count:
            return events, dropped
        order = moves_of(board, state)
        now, _, move = min((due, order.index(one), one) for one, due in pending)
        events.append((now, move))
        pending = [(one, due) for one, due in pending if one != move]
        state = after_and_flaw(board, state, move)[0]
        dropped += [one for one, _ in pending if one not in moves_of(board, state) and one[0] == "gate"]
        pending = [(one, due) for one, due in pending if one in moves_of(board, state)]


def some_boards():
    """Boards with netlists of gates of all kinds, most of them flawed."""
    for seed in range(120):
        chance = random.Random(seed)
        spec = random_machines(seed)
        yield chance, Board(spec, random_netlist_for(chance, spec.signals, spec.start))


def design_boards():
    for seed in range(60):
        spec = random_loop(seed) if seed % 2 else random_machines(seed)
        if reason(spec) is None and len(spec.net):
            for style in STYLES:
                yield random.Random(seed), Board(spec, synthesise(spec, style=style))


def drops_a_gate(board, moves):
    """Whether a move of the list stops a pending move of a gate."""
    state = board.initial
    for move in moves:
        left = [one for one in moves_of(board, state) if one[0] == "gate" and one != move]
        state = after_and_flaw(board, state, move)[0]
        if [one for one in left if one not in moves_of(board, state)]:
            return True
    return False


def random_moves(chance, board, length):
    """Moves from the initial state on; they end early where no move is possible."""
    state, moves = board.initial, []
    while len(moves) < length and moves_of(board, state):
        moves.append(chance.choice(moves_of(board, state)))
        state = after_and_flaw(board, state, moves[-1])[0]
    return moves


class Runs(unittest.TestCase):
    def test_a_handshake(self):
        board = handshake("gate 1 atomic 1-")
        events = [(5, ("input", 0)), (7, ("gate", 1)), (8, ("input", 2)), (9, ("gate", 1)), (10, ("input", 0))]
        for count in range(6):
            self.assertEqual(simulate(board, [5, 2], count=count), events[:count])
        self.assertEqual(simulate(board, [5, 2, 1, 1, 1], count=5), events)
        self.assertEqual(glitches(board, [5, 2], count=100), [])

    def test_no_moves(self):
        board = board_of(["signal a output 0", "places 0"], ["gate 0 atomic"])
        self.assertEqual(simulate(board, [], count=10), [])
        self.assertEqual(glitches(board, [3], count=10), [])
        self.assertEqual(simulate(board_of(["places 0"], []), [4], count=1), [])

    def test_the_run_ends_when_no_move_is_pending(self):
        board = board_of(["signal a input 0", "signal b output 0", "places 1 0", "a+ 0 to"], ["gate 1 atomic 1-"])
        self.assertEqual(simulate(board, [], count=100), [(1, ("input", 0)), (2, ("gate", 1))])
        self.assertEqual(simulate(board, [0, 0, 7], count=2), [(0, ("input", 0)), (0, ("gate", 1))])
        self.assertEqual(simulate(board, [], count=1), [(1, ("input", 0))])

    def test_equal_times_go_by_the_order_of_the_moves(self):
        board = board_of(FREE, ["gate 2 atomic --0"])
        self.assertEqual(simulate(board, [4, 4, 4], count=3),
                         [(4, ("input", 0)), (4, ("input", 1)), (4, ("gate", 2))])
        self.assertEqual(simulate(board, [4, 3, 4], count=3),
                         [(3, ("input", 1)), (4, ("input", 0)), (4, ("gate", 2))])
        # The delay of the gate's second move is the fourth one: 0; that of a- is 1.
        self.assertEqual(simulate(board, [4, 4, 3, 0], count=5),
                         [(3, ("gate", 2)), (3, ("gate", 2)), (4, ("input", 0)), (4, ("input", 1)), (4, ("gate", 2))])

    def test_inputs_come_before_gates_that_are_due_at_once(self):
        """A move that became pending later may come first."""
        board = board_of(["signal a input 0", "signal b output 0", "places 2 0", "a+ 0 to 1", "a- 1 to 0"],
                         ["gate 1 atomic -0"])
        self.assertEqual(simulate(board, [1, 3, 2], count=3), [(1, ("input", 0)), (3, ("input", 1)), (3, ("gate", 1))])

    def test_a_move_that_is_possible_again_takes_a_new_delay(self):
        board = board_of(["signal a output 0", "places 0"], ["gate 0 atomic 0"])
        self.assertEqual(simulate(board, [2, 5, 0, 10], count=5), [(time, ("gate", 0)) for time in (2, 7, 7, 17, 18)])
        board = board_of(["signal a input 0", "places 1 0", "a+ 0 to 0"], [])
        self.assertEqual(simulate(board, [3, 4], count=3), [(time, ("input", 0)) for time in (3, 7, 8)])

    def test_pending_moves_keep_their_times(self):
        board = board_of(FREE, ["gate 2 atomic --0"])
        self.assertEqual(simulate(board, [2, 9, 30, 4, 1, 1, 90], count=5),
                         [(2, ("input", 0)), (6, ("input", 2)), (7, ("input", 0)), (8, ("input", 2)), (9, ("input", 1))])

    def test_large_delays(self):
        board = handshake("gate 1 atomic 1-")
        large = 10 ** 59
        self.assertEqual(simulate(board, [large, 0, large], count=4),
                         [(large, ("input", 0)), (large, ("gate", 1)), (2 * large, ("input", 2)),
                          (2 * large + 1, ("gate", 1))])

    def test_the_delays_stay_as_they_are(self):
        board = handshake("gate 1 atomic 1-")
        delays = [5, 2, 3]
        first = simulate(board, delays, count=3)
        self.assertEqual(glitches(board, delays, count=3), [])
        self.assertEqual(delays, [5, 2, 3])
        expected = list(first)
        first.clear()
        self.assertEqual(simulate(board, delays, count=3), expected)

    def test_against_the_words_of_the_points(self):
        dropped = 0
        for chance, board in some_boards():
            for most in (0, 1, 3, 9):
                delays = [chance.randint(0, most) for _ in range(chance.randint(0, 30))]
                for count in (0, 1, 7, 25):
                    events, expected = reference_run(board, delays, count)
                    self.assertEqual(simulate(board, delays, count=count), events)
                    self.assertEqual(glitches(board, delays, count=count), expected)
                    dropped += len(expected) > 1
        self.assertGreater(dropped, 50)


class Events(unittest.TestCase):
    def test_times_and_moves(self):
        for chance, board in some_boards():
            events = simulate(board, [chance.randint(0, 4) for _ in range(20)], count=20)
            times = [time for time, _ in events]
            self.assertEqual(times, sorted(times))
            board.run([move for _, move in events])

    def test_designs_have_no_glitches(self):
        for chance, board in design_boards():
            graph = explore(board.spec)
            for most in (0, 2, 9):
                delays = [chance.randint(0, most) for _ in range(60)]
                self.assertEqual(glitches(board, delays, count=80), [])
                moves = [move for _, move in simulate(board, delays, count=80)]
                seen = view(board.trace(moves), signals=range(len(board.spec)))
                self.assertNotEqual(follow(graph, seen), [])


class Glitches(unittest.TestCase):
    def test_dropped_gates(self):
        # The gates of b and of c want to rise until a rises.
        board = board_of(["signal a input 0", "signal b output 0", "signal c output 0", "places 1 0", "a+ 0 to"],
                         ["gate 1 atomic 0--", "gate 2 atomic 0--"])
        self.assertEqual(glitches(board, [1, 2, 2], count=10), [("gate", 1), ("gate", 2)])
        self.assertEqual(simulate(board, [1, 2, 2], count=10), [(1, ("input", 0))])
        self.assertEqual(glitches(board, [1, 0, 2], count=10), [("gate", 2)])
        self.assertEqual(simulate(board, [1, 0, 2], count=10), [(0, ("gate", 1)), (1, ("input", 0)), (2, ("gate", 1))])
        self.assertEqual(glitches(board, [3, 1, 2], count=10), [])

    def test_the_last_move_of_the_run(self):
        board = board_of(["signal a input 0", "signal b output 0", "places 1 0", "a+ 0 to"], ["gate 1 atomic 00"])
        self.assertEqual(glitches(board, [1, 2], count=1), [("gate", 1)])
        self.assertEqual(glitches(board, [1, 2], count=0), [])
        self.assertEqual(glitches(board, [2, 1], count=1), [])

    def test_the_order_in_which_they_became_pending(self):
        # The gate of c wants to rise at the beginning, that of b as soon as a has risen; both stop when d rises.
        lines = ["signal a input 0", "signal b output 0", "signal c output 0", "signal d input 0", "places 2 0 1",
                 "a+ 0 to", "d+ 1 to"]
        board = board_of(lines, ["gate 1 atomic 1--0", "gate 2 atomic ---0"])
        self.assertEqual(glitches(board, [1, 5, 9, 9], count=10), [("gate", 2), ("gate", 1)])
        board = board_of(lines, ["gate 1 atomic ---0", "gate 2 atomic 1--0"])
        self.assertEqual(glitches(board, [1, 5, 9, 9], count=10), [("gate", 1), ("gate", 2)])

    def test_a_move_that_is_dropped_and_pending_again_counts_from_then_on(self):
        # b is stopped by a, begins anew when a falls, then stands behind c, and both stop when d rises.
        lines = ["signal a input 0", "signal b output 0", "signal c output 0", "signal d input 0", "places 3 0 2",
                 "a+ 0 to 1", "a- 1 to", "d+ 2 to"]
        board = board_of(lines, ["gate 1 atomic 0--0", "gate 2 atomic ---0"])
        self.assertEqual(glitches(board, [1, 8, 20, 21, 2, 22], count=10), [("gate", 1), ("gate", 2), ("gate", 1)])

    def test_inputs_are_no_glitches(self):
        board = board_of(["signal a input 0", "signal b input 0", "places 1 0", "a+ 0 to", "b+ 0 to"], [])
        self.assertEqual(simulate(board, [2, 1], count=5), [(1, ("input", 1))])
        self.assertEqual(glitches(board, [2, 1], count=5), [])

    def test_a_dropped_input_takes_a_new_delay(self):
        board = board_of(["signal a input 0", "signal b input 0", "places 2 0", "a+ 0 to", "b+ 0 to 1", "b- 1 to 0"], [])
        # a+ would be due at 3, but b+ drops it at 1; after b- at 2 it takes the fourth delay.
        self.assertEqual(simulate(board, [3, 1, 1, 7, 9], count=3), [(1, ("input", 1)), (2, ("input", 2)),
                                                                    (9, ("input", 0))])


class DelaysFor(unittest.TestCase):
    def test_a_handshake(self):
        board = handshake("gate 1 atomic 1-")
        self.assertEqual(delays_for(board, []), [1])
        self.assertEqual(delays_for(board, [("input", 0)]), [1, 1])
        moves = [("input", 0), ("gate", 1), ("input", 2), ("gate", 1), ("input", 0)]
        self.assertEqual(delays_for(board, moves), [1, 1, 1, 1, 1, 1])

    def test_no_moves_at_all(self):
        self.assertEqual(delays_for(board_of(["places 0"], []), []), [])
        self.assertEqual(delays_for(board_of(FREE, ["gate 2 atomic --0"]), []), [1, 1, 1])

    def test_repetitions(self):
        board = board_of(FREE, ["gate 2 atomic"])
        moves = [("input", 0), ("input", 2), ("input", 0), ("input", 1)]
        # a+ at 1 and 3, b+ at 4, a- at 2 and then never, which is 5.
        self.assertEqual(delays_for(board, moves), [1, 4, 1, 1, 2])
        self.assertEqual(simulate(board, [1, 4, 1, 1, 2], count=4), list(enumerate(moves, start=1)))

    def test_moves_that_never_occur_again(self):
        board = board_of(FREE, ["gate 2 atomic --0"])
        self.assertEqual(delays_for(board, [("input", 1)]), [2, 1, 2])
        self.assertEqual(delays_for(board, [("input", 1), ("input", 0)]), [2, 1, 3, 1])

    def test_a_move_that_is_made_and_possible_again(self):
        board = board_of(["signal a output 0", "places 0"], ["gate 0 atomic 0"])
        self.assertEqual(delays_for(board, [("gate", 0)] * 3), [1, 1, 1, 1])

    def test_a_dropped_input(self):
        board = board_of(["signal a input 0", "signal b input 0", "places 2 0", "a+ 0 to", "b+ 0 to 1", "b- 1 to 0"], [])
        moves = [("input", 1), ("input", 2), ("input", 0)]
        self.assertEqual(delays_for(board, moves), [3, 1, 1, 1, 2])
        self.assertEqual(simulate(board, delays_for(board, moves), count=3), list(enumerate(moves, start=1)))

    def test_impossible_moves(self):
        board = handshake("gate 1 atomic 1-")
        for moves, wrong in (([("input", 1)], ("input", 1)), ([("gate", 1)], ("gate", 1)),
                             ([("input", 0), ("input", 0), ("gate", 0)], ("input", 0)),
                             ([("input", 0), ("gate", 1), ("gate", 1), ("input", 2)], ("gate", 1)),
                             ([("input", 0), ("input", 7), ("input", 2)], ("input", 7))):
            with self.assertRaises(InvalidMove) as caught:
                delays_for(board, moves)
            self.assertEqual(caught.exception.move, wrong)

    def test_the_moves_stay_as_they_are(self):
        board = handshake("gate 1 atomic 1-")
        moves = [("input", 0), ("gate", 1)]
        delays_for(board, moves).clear()
        self.assertEqual(moves, [("input", 0), ("gate", 1)])
        self.assertEqual(delays_for(board, moves), [1, 1, 1])

    def test_the_run_makes_the_moves(self):
        for chance, board in design_boards():
            for length in (1, 5, 40):
                self.check(board, random_moves(chance, board, length))

    def test_boards_with_flaws(self):
        checked = 0
        for chance, board in some_boards():
            for length in (1, 2, 4, 8):
                moves = random_moves(chance, board, length)
                if not drops_a_gate(board, moves):
                    checked += self.check(board, moves)
        self.assertGreater(checked, 100)

    def check(self, board, moves):
        delays = delays_for(board, moves)
        self.assertEqual(simulate(board, delays, count=len(moves)), list(enumerate(moves, start=1)))
        # No delay was missing and none was left: one less or one more changes nothing but the moves after these.
        pending, count = [], 0
        for made in range(len(moves) + 1):
            now = moves_of(board, board.run(moves[:made]))
            came = [one for one in now if one not in pending or made and one == moves[made - 1]]
            for one, delay in zip(came, delays[count:]):
                later = [at for at, other in enumerate(moves, start=1) if other == one and at > made]
                self.assertEqual(made + delay, later[0] if later else len(moves) + 1)
            count += len(came)
            pending = now
        self.assertEqual(len(delays), count)
        return True


class Waves(unittest.TestCase):
    def test_a_handshake(self):
        board = handshake("gate 1 c 2 3", "gate 2 and 1-", "gate 3 and 0-")
        events = simulate(board, [5, 2, 2, 3], count=9)
        self.assertEqual(events, [(5, ("input", 0)), (7, ("gate", 2)), (7, ("gate", 3)), (10, ("gate", 1)),
                                  (11, ("input", 2)), (12, ("gate", 2)), (12, ("gate", 3)), (13, ("gate", 1)),
                                  (14, ("input", 0))])
        self.assertEqual(wave(board, events, 0), [(0, "0"), (5, "1"), (11, "0"), (14, "1")])
        self.assertEqual(wave(board, events, 1), [(0, "0"), (10, "1"), (13, "0")])
        self.assertEqual(wave(board, events, 2), [(0, "0"), (7, "1"), (12, "0")])
        self.assertEqual(wave(board, events, 3), [(0, "1"), (7, "0"), (12, "1")])
        self.assertEqual(wave(board, events[:4], 1), [(0, "0"), (10, "1")])
        self.assertEqual(wave(board, [], 3), [(0, "1")])

    def test_several_entries_at_one_time(self):
        board = board_of(["signal a output 1", "signal b input 1", "places 1 0", "b- 0 to"], ["gate 0 atomic 0-"])
        events = simulate(board, [0, 0, 0, 4, 0], count=5)
        self.assertEqual(wave(board, events, 0), [(0, "1"), (0, "0"), (0, "1"), (4, "0"), (4, "1")])
        self.assertEqual(wave(board, events, 1), [(0, "1"), (0, "0")])

    def test_a_wire_that_never_changes(self):
        board = board_of(["signal a input 0", "signal b output 1", "signal c input 1", "places 1 0", "a+ 0 to"],
                         ["gate 1 latch to", "gate 3 all"])
        events = simulate(board, [3], count=9)
        self.assertEqual([wave(board, events, wire) for wire in range(4)],
                         [[(0, "0"), (3, "1")], [(0, "1")], [(0, "1")], [(0, "1")]])

    def test_an_input_and_a_gate_of_the_same_number(self):
        """The number of a transition is not that of a wire."""
        board = handshake("gate 1 atomic 1-")
        events = [(1, ("input", 0)), (2, ("gate", 1)), (3, ("input", 2)), (4, ("gate", 1))]
        self.assertEqual(wave(board, events, 0), [(0, "0"), (1, "1"), (3, "0")])
        self.assertEqual(wave(board, events, 1), [(0, "0"), (2, "1"), (4, "0")])

    def test_further_signals(self):
        spec = parse_spec(HANDSHAKE)
        netlist = Netlist([*spec.signals, ("s0", "inner")], "000", [None, ("atomic", ("--1",)), ("atomic", ("1--",))])
        board = Board(spec, netlist)
        events = simulate(board, [1, 4], count=4)
        self.assertEqual(wave(board, events, 2), [(0, "0"), (5, "1")])
        self.assertEqual(wave(board, events, 1), [(0, "0"), (6, "1")])

    def test_waves_show_the_values_of_all_states(self):
        for chance, board in some_boards():
            events = simulate(board, [chance.randint(0, 3) for _ in range(20)], count=15)
            waves = [wave(board, events, wire) for wire in range(len(board.netlist))]
            state, expected = board.initial, [[(0, value)] for value in board.initial[1]]
            for time, move in events:
                after = board.after(state, move)
                for wire, (old, new) in enumerate(zip(state[1], after[1])):
                    if old != new:
                        expected[wire].append((time, new))
                state = after
            self.assertEqual(waves, expected)
