"""Points 83 and 84: fan-in, reducing it, and netlists with bounded fan-in."""

import itertools
import random
import unittest

from clockless.boards import Board
from clockless.errors import Flawed, InvalidBoard, InvalidNetlist, TooLarge
from clockless.examining import examine, is_certificate
from clockless.fanin import bounded, fan_in, reduced, widest
from clockless.flow import design
from clockless.netlists import Netlist
from clockless.spectext import parse_spec
from clockless.tidying import tidied
from tests.design_samples import designs, ways
from tests.samples import HANDSHAKE, loop_spec, random_loop
from tests.test_netlists import C_GATES, ONE_IN_ONE_OUT, random_cube, random_netlist

EIGHT = [(f"x{k}", "input") for k in range(7)] + [("z", "output")]


def with_gates(*gates, signal=("atomic", ())):
    """A netlist of eight signals with these gates of inner wires, from number 8 on."""
    return Netlist(EIGHT, "0" * 8, [*[None] * 7, signal, *gates])


def gates_of(netlist, width):
    """The gates of the inner wires of the reduced netlist."""
    return list(reduced(netlist, width=width).gates[netlist.signal_count:])


def reference(netlist, width):
    """The gates of the reduced netlist, straight from the words of point 83."""
    count = len(netlist.signals)
    made, took = [], {}

    def new(gate):
        made.append(gate)
        return count + len(made) - 1

    def tree(kind, wires):
        while len(wires) > width:
            groups = [wires[k:k + width] for k in range(0, len(wires), width)]
            wires = [group[0] if len(group) == 1 else new((kind, tuple(sorted(group)))) for group in groups]
        return new((kind, tuple(sorted(wires))))

    for wire, gate in list(enumerate(netlist.gates))[count:]:
        if gate[0] in ("or", "all"):
            took[wire] = tree(gate[0], [took[one] for one in gate[1]])
            continue
        at = [k for k in range(count) if gate[1][k] != "-"]
        if len(at) <= width:
            took[wire] = new(gate)
        else:
            parts = []
            for k in range(0, len(at), width):
                cube = ["-"] * count
                for index in at[k:k + width]:
                    cube[index] = gate[1][index]
                parts.append(new(("and", "".join(cube))))
            took[wire] = tree("all", parts)
    signals = [("c", took[gate[1]], took[gate[2]]) if gate and gate[0] == "c" else gate
               for gate in netlist.gates[:count]]
    return tuple(signals + made)


def wide_netlist(seed):
    """A netlist with wide gates of all kinds."""
    chance = random.Random(seed)
    width, count = chance.randint(2, 8), chance.randint(2, 16)
    signals = [(f"x{k}", chance.choice(["input", "output", "inner"])) for k in range(width)]
    gates = [None if kind == "input" else ("c", *chance.sample(range(width, width + count), 2)) for _, kind in signals]
    for wire in range(width, width + count):
        wires = tuple(sorted(chance.sample(range(width, wire), chance.randint(0, wire - width))))
        gates.append(chance.choice([("and", random_cube(chance, width)), ("or", wires), ("all", wires)]))
    return Netlist(signals, "0" * width, gates)


class FanIn(unittest.TestCase):
    def test_gates(self):
        for gate, count in ((("and", "--"), 0), (("and", "1-0"), 2), (("and", "10101010"), 8), (("or", ()), 0),
                            (("or", (3,)), 1), (("or", (3, 4, 9)), 3), (("all", ()), 0), (("all", tuple(range(9))), 9)):
            self.assertEqual(fan_in(gate), count)

    def test_widest(self):
        self.assertEqual(widest(Netlist([], "", [])), 0)
        self.assertEqual(widest(Netlist([("a", "output")], "0", [("atomic", ("1", "0"))])), 0)
        self.assertEqual(widest(Netlist(ONE_IN_ONE_OUT, "00", C_GATES)), 1)
        self.assertEqual(widest(with_gates(("and", "11------"), ("or", (8,)))), 2)
        self.assertEqual(widest(with_gates(("and", "-" * 8), ("or", ()))), 0)
        self.assertEqual(widest(with_gates(("and", "-" * 8), ("and", "-" * 8), ("and", "-" * 8), ("all", (8, 9, 10)),
                                           ("or", (8, 9)))), 3)
        # The gates of signals do not count.
        self.assertEqual(widest(with_gates(signal=("latch", ("1" * 8,), ("0" * 8,)))), 0)


class Trees(unittest.TestCase):
    def test_or_and_all_gates(self):
        leaves = [("and", "1-------")] * 9
        for kind in ("or", "all"):
            for width, wires, expected in (
                    (2, (), [()]), (2, (8,), [(8,)]), (2, (8, 9), [(8, 9)]),
                    (2, (8, 9, 10), [(8, 9), (10, 17)]),
                    (2, (8, 9, 10, 11), [(8, 9), (10, 11), (17, 18)]),
                    (2, (8, 9, 10, 11, 12), [(8, 9), (10, 11), (17, 18), (12, 19)]),
                    (3, (8, 9, 10), [(8, 9, 10)]),
                    (3, (8, 9, 10, 11), [(8, 9, 10), (11, 17)]),
                    (3, (8, 9, 10, 11, 12), [(8, 9, 10), (11, 12), (17, 18)]),
                    (3, tuple(range(8, 17)), [(8, 9, 10), (11, 12, 13), (14, 15, 16), (17, 18, 19)]),
                    (4, tuple(range(8, 17)), [(8, 9, 10, 11), (12, 13, 14, 15), (16, 17, 18)]),
                    (8, tuple(range(8, 17)), [(8, 9, 10, 11, 12, 13, 14, 15), (16, 17)]),
                    (9, tuple(range(8, 17)), [tuple(range(8, 17))]), (10 ** 59, tuple(range(8, 17)), [tuple(range(8, 17))])):
                made = gates_of(with_gates(*leaves, (kind, wires)), width)
                self.assertEqual(made, leaves + [(kind, group) for group in expected], (width, wires))

    def test_ten_wires_by_two(self):
        leaves = [("and", "1-------")] * 10
        made = gates_of(with_gates(*leaves, ("or", tuple(range(8, 18)))), 2)
        self.assertEqual([wires for _, wires in made[10:]],
                         [(8, 9), (10, 11), (12, 13), (14, 15), (16, 17), (18, 19), (20, 21), (23, 24), (22, 25)])

    def test_and_gates(self):
        for width, cube, parts, tree in (
                (2, "--------", ["--------"], []), (2, "1-0-----", ["1-0-----"], []),
                (2, "1-01----", ["1-0-----", "---1----"], [(8, 9)]),
                (2, "1-01---0", ["1-0-----", "---1---0"], [(8, 9)]),
                (2, "10101---", ["10------", "--10----", "----1---"], [(8, 9), (10, 11)]),
                (2, "10101010", ["10------", "--10----", "----10--", "------10"], [(8, 9), (10, 11), (12, 13)]),
                (3, "10101010", ["101-----", "---010--", "------10"], [(8, 9, 10)]),
                (3, "1010----", ["101-----", "---0----"], [(8, 9)]),
                (3, "-101----", ["-101----"], []),
                (7, "10101010", ["1010101-", "-------0"], [(8, 9)]), (8, "10101010", ["10101010"], [])):
            made = gates_of(with_gates(("and", cube)), width)
            self.assertEqual(made, [("and", part) for part in parts] + [("all", wires) for wires in tree])

    def test_gates_of_gates(self):
        """The wires of later gates are those that took the places."""
        netlist = with_gates(("and", "111-----"), ("and", "0-------"), ("or", (8, 9)), ("all", (8, 9, 10)),
                             signal=("c", 11, 8))
        self.assertEqual(reduced(netlist, width=2).gates[7:],
                         (("c", 14, 10), ("and", "11------"), ("and", "--1-----"), ("all", (8, 9)), ("and", "0-------"),
                          ("or", (10, 11)), ("all", (10, 11)), ("all", (12, 13))))

    def test_c_gates(self):
        netlist = with_gates(("and", "1111----"), ("or", (8,)), ("and", "0000----"), ("or", (10,)), signal=("c", 9, 11))
        self.assertEqual(reduced(netlist, width=3).gates[7:],
                         (("c", 11, 15), ("and", "111-----"), ("and", "---1----"), ("all", (8, 9)), ("or", (10,)),
                          ("and", "000-----"), ("and", "---0----"), ("all", (12, 13)), ("or", (14,))))
        swapped = with_gates(("and", "1111----"), ("or", (8,)), ("and", "0000----"), ("or", (10,)), signal=("c", 10, 8))
        self.assertEqual(reduced(swapped, width=3).gates[7], ("c", 14, 10))

    def test_other_gates_of_signals_stay(self):
        for gate in (("atomic", ("1" * 8, "0" * 8)), ("latch", ("1" * 8,), ("0" * 8,))):
            netlist = with_gates(("and", "11111111"), signal=gate)
            after = reduced(netlist, width=2)
            self.assertEqual(after.gates[:8], (*[None] * 7, gate))
            self.assertEqual((after.signals, after.start), (netlist.signals, netlist.start))
        self.assertEqual(reduced(Netlist([], "", []), width=2), Netlist([], "", []))
        self.assertEqual(reduced(Netlist([("a", "input")], "1", [None]), width=2).gates, (None,))

    def test_nothing_to_reduce(self):
        netlist = Netlist(ONE_IN_ONE_OUT, "00", C_GATES)
        for width in (2, 3, 100):
            self.assertEqual(reduced(netlist, width=width), netlist)
        self.assertEqual(netlist, Netlist(ONE_IN_ONE_OUT, "00", C_GATES))

    def test_4000_wires(self):
        def wide(leaves):
            """As many wires as leaves, then an "or" gate of all, beside the eight signals."""
            return with_gates(*[("and", "1-------")] * leaves, ("or", tuple(range(8, 8 + leaves))))

        # By twos, an "or" gate of n wires becomes n - 1 gates.
        self.assertEqual(len(reduced(wide(1996), width=2)), 8 + 1996 + 1995)
        netlist = with_gates(*[("and", "1-------")] * 1996, ("or", tuple(range(8, 2004))), ("or", ()))
        self.assertEqual(len(reduced(netlist, width=2)), 4000)
        netlist = with_gates(*[("and", "1-------")] * 1996, ("or", tuple(range(8, 2004))), ("or", ()), ("or", ()))
        for wrong in (netlist, wide(1997), wide(3991)):
            with self.assertRaises(InvalidNetlist):
                reduced(wrong, width=2)
            with self.assertRaises(InvalidNetlist):
                bounded(parse_spec(HANDSHAKE), wrong, width=2)
        self.assertEqual(len(reduced(wide(3991), width=4000)), 4000)
        many = with_gates(*[("and", "1-------")] * 2000, *[("or", tuple(range(8, 2008)))] * 1900)
        with self.assertRaises(InvalidNetlist):
            reduced(many, width=2)

    def test_against_the_words_of_the_point(self):
        for seed in range(300):
            for netlist in (wide_netlist(seed), random_netlist(seed)):
                for width in (2, 3, 5, 8):
                    after = reduced(netlist, width=width)
                    self.assertEqual(after.gates, reference(netlist, width))
                    self.assertLessEqual(widest(after), width)
                    self.assertEqual((after.signals, after.start), (netlist.signals, netlist.start))

    def test_values_for_every_code(self):
        for seed in range(60):
            netlist = wide_netlist(seed)
            for width in (2, 3):
                small = reduced(netlist, width=width)
                for values in itertools.product("01", repeat=len(netlist.signals)):
                    code = "".join(values)
                    one, other = (Netlist(made.signals, code, made.gates) for made in (netlist, small))
                    for wire, gate in enumerate(netlist.gates[:len(code)]):
                        if gate is not None:
                            self.assertEqual(one.gate_value(one.initial, wire), other.gate_value(other.initial, wire))


# Four outputs that rise one after another and fall together when the input has fallen: wide "and" gates.
STAIRS = loop_spec([[(0, 1)], [(1, 1), (2, 1), (3, 1)], [(4, 1)], [(0, 0)], [(1, 0), (2, 0), (3, 0)], [(4, 0)]],
                   ["input", "output", "output", "output", "output"])


class Bounded(unittest.TestCase):
    def test_without_a_flaw(self):
        spec = parse_spec(HANDSHAKE)
        netlist = Netlist(ONE_IN_ONE_OUT, "00", C_GATES)
        self.assertEqual(bounded(spec, netlist, width=2), reduced(netlist, width=2))
        made = design(STAIRS)
        self.assertGreater(widest(made.netlist), 2)
        after = bounded(STAIRS, made.netlist, width=3)
        self.assertEqual(after, reduced(made.netlist, width=3))
        self.assertEqual(widest(after), 3)

    def test_dividing_or_gates_is_harmless(self):
        """Where no "and" gate is wider, the reduced netlists of designs have no flaw."""
        checked = 0
        for _, made in designs():
            ands = [fan_in(gate) for gate in made.netlist.gates if gate is not None and gate[0] == "and"]
            width = max([2, *ands])
            for netlist in (made.netlist, tidied(made.netlist)):
                if widest(netlist) > width:
                    after = bounded(made.spec, netlist, width=width, limit=40000)
                    board = Board(made.spec, after)
                    self.assertTrue(is_certificate(board, examine(board, limit=40000)))
                    checked += 1
        self.assertGreater(checked, 2)

    def test_many_regions(self):
        """An output that rises and falls once on each of several ways needs wide "or" gates."""
        for names in ("xyz", "wxyz", "vwxyz"):
            spec = ways(names)
            made = design(spec)
            self.assertEqual(widest(made.netlist), len(names))
            for netlist in (made.netlist, tidied(made.netlist)):
                after = bounded(spec, netlist, width=2)
                self.assertEqual(widest(after), 2)
                self.assertEqual(after, reduced(netlist, width=2))

    def test_a_netlist_that_examination_finds_a_flaw_in(self):
        found = {}
        for _, made in designs():
            small = reduced(made.netlist, width=2)
            board = Board(made.spec, small)
            try:
                self.assertEqual(bounded(made.spec, made.netlist, width=2, limit=20000), small)
                found[None] = found.get(None, 0) + 1
            except Flawed as error:
                found[error.kind] = found.get(error.kind, 0) + 1
                with self.assertRaises(Flawed) as caught:
                    examine(board, limit=20000)
                self.assertEqual(vars(caught.exception), vars(error))
                state = board.run(error.moves[:-1])
                self.assertIn((error.kind, error.wire), [board.flaw_of_move(state, error.moves[-1]),
                                                         board.flaw_of_state(board.run(error.moves))])
        self.assertGreater(found[None], 20)
        self.assertGreater(found["hazard"], 3)

    def test_a_divided_and_gate_with_a_hazard(self):
        spec = random_loop(33)
        netlist = design(spec).netlist
        self.assertEqual(len(bounded(spec, netlist, width=4)), len(netlist))
        for width in (2, 3):
            with self.assertRaises(Flawed) as caught:
                bounded(spec, netlist, width=width)
            error = caught.exception
            self.assertEqual((error.kind, error.wire), ("hazard", 6))
            self.assertEqual(error.moves, [("gate", 4), ("gate", 1), ("gate", 5), ("gate", 3), ("gate", 5), ("gate", 1)])
            board = Board(spec, reduced(netlist, width=width))
            self.assertEqual(board.flaw_of_move(board.run(error.moves[:-1]), ("gate", 1)), ("hazard", 6))

    def test_a_specification_that_does_not_suit(self):
        netlist = Netlist(ONE_IN_ONE_OUT, "00", C_GATES)
        for text in ("signal a input 0\nsignal b output 1\nplaces 0", "signal c input 0\nplaces 0",
                     "signal b input 0\nsignal a output 0\nplaces 0"):
            with self.assertRaises(InvalidBoard):
                bounded(parse_spec(text), netlist, width=2)

    def test_the_limit(self):
        spec = parse_spec(HANDSHAKE)
        netlist = Netlist(ONE_IN_ONE_OUT, "00", C_GATES)
        count = len(examine(Board(spec, netlist)))
        self.assertEqual(bounded(spec, netlist, width=2, limit=count), netlist)
        with self.assertRaises(TooLarge) as caught:
            bounded(spec, netlist, width=2, limit=count - 1)
        self.assertEqual(caught.exception.limit, count - 1)

    def test_without_a_limit(self):
        """Independent inputs: as many states as markings."""
        for count, refused in ((10, False), (11, True)):
            lines = [f"signal x{k} input 0" for k in range(4)]
            lines.append(f"places {4 * count} 0 {count} {2 * count} {3 * count}")
            for k in range(4):
                for step in range(count - 1):
                    number = "" if step < 2 else f"/{step // 2 + 1}"
                    lines.append(f"x{k}{'+-'[step % 2]}{number} {k * count + step} to {k * count + step + 1}")
            spec = parse_spec("\n".join(lines))
            netlist = Netlist(spec.signals, "0000", [None] * 4)
            if refused:
                with self.assertRaises(TooLarge) as caught:
                    bounded(spec, netlist, width=2)
                self.assertEqual(caught.exception.limit, 10000)
            else:
                self.assertEqual(bounded(spec, netlist, width=2), netlist)
