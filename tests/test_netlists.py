"""Points 44 to 46: gates, the rules of netlists, value strings, initial values and excited gates."""

import itertools
import random
import unittest

from clockless.errors import ClocklessError, InvalidNetlist
from clockless.netlists import Netlist
from tests.board_reference import value_of

ONE_IN_ONE_OUT = [("a", "input"), ("b", "output")]
C_GATES = [None, ("c", 3, 5), ("and", "1-"), ("or", (2,)), ("and", "0-"), ("or", (4,))]
BITS = ["".join(values) for values in itertools.product("01", repeat=3)]


def rejected(signals, start, gates):
    try:
        Netlist(signals, start, gates)
    except InvalidNetlist:
        return True
    return False


class Valid(unittest.TestCase):
    def test_fields(self):
        netlist = Netlist(ONE_IN_ONE_OUT, "01", C_GATES)
        self.assertEqual(netlist.signals, (("a", "input"), ("b", "output")))
        self.assertEqual(netlist.start, "01")
        self.assertEqual(netlist.gates, tuple(C_GATES))
        self.assertEqual((len(netlist), netlist.signal_count), (6, 2))

    def test_no_signals(self):
        netlist = Netlist([], "", [])
        self.assertEqual((netlist.signals, netlist.start, netlist.gates, netlist.initial), ((), "", (), ""))
        self.assertEqual((len(netlist), netlist.signal_count, netlist.excited("")), (0, 0, []))

    def test_gates_of_each_kind(self):
        signals = [("a", "input"), ("b", "output"), ("c", "inner"), ("d", "output")]
        gates = [None, ("atomic", ("1---", "-01-")), ("latch", ("1---",), ("0---", "---1")), ("c", 4, 6),
                 ("and", "10-1"), ("or", (4,)), ("all", (4, 5))]
        self.assertEqual(Netlist(signals, "0000", gates).gates, tuple(gates))

    def test_gates_without_cubes_or_wires(self):
        signals = [("a", "output"), ("b", "output"), ("c", "output")]
        gates = [("atomic", ()), ("latch", (), ()), ("c", 4, 3), ("or", ()), ("all", ())]
        netlist = Netlist(signals, "111", gates)
        self.assertEqual(netlist.initial, "11101")
        self.assertEqual(netlist.excited("11101"), [0])

    def test_inputs_beside_inner_wires_only(self):
        self.assertEqual(Netlist([("a", "input")], "1", [None, ("and", "1"), ("and", "0")]).initial, "110")

    def test_the_wires_of_a_c_gate_may_have_greater_and_smaller_numbers(self):
        signals = [("a", "output")]
        self.assertFalse(rejected(signals, "0", [("c", 2, 1), ("and", "1"), ("and", "0")]))
        self.assertFalse(rejected(signals, "0", [("c", 1, 2), ("and", "1"), ("and", "0")]))

    def test_lists_that_are_changed_afterwards(self):
        signals, gates = list(ONE_IN_ONE_OUT), list(C_GATES)
        netlist = Netlist(signals, "00", gates)
        signals.append(("c", "output"))
        signals[0] = ("x", "input")
        gates.append(("and", "11"))
        gates[1] = None
        self.assertEqual(netlist, Netlist(ONE_IN_ONE_OUT, "00", C_GATES))
        self.assertEqual((len(netlist), netlist.initial), (6, "000011"))


class Invalid(unittest.TestCase):
    def test_the_error(self):
        with self.assertRaises(InvalidNetlist) as caught:
            Netlist([("A", "output")], "0", [("atomic", ())])
        self.assertIsInstance(caught.exception, ClocklessError)

    def test_signals(self):
        atomic = ("atomic", ())
        for signals in ([("", "output")], [("B", "output")], [("1b", "output")], [("b" * 13, "output")],
                        [("b_", "output")], [("b", "Output")], [("b", "")], [("b", "wire")]):
            self.assertTrue(rejected(signals, "0", [atomic]), signals)
        self.assertFalse(rejected([("b", "output")], "0", [atomic]))
        self.assertTrue(rejected([("b", "output"), ("b", "inner")], "00", [atomic, atomic]))
        self.assertTrue(rejected([("b", "output"), ("b", "input")], "00", [atomic, None]))
        self.assertFalse(rejected([("b" * 12, "output"), ("c", "input")], "00", [atomic, None]))

    def test_eight_and_nine_signals(self):
        names = [(f"x{k}", "output") for k in range(9)]
        self.assertFalse(rejected(names[:8], "0" * 8, [("atomic", ("-" * 8,))] * 8))
        self.assertTrue(rejected(names, "0" * 9, [("atomic", ("-" * 9,))] * 9))

    def test_the_start_code(self):
        for start in ("", "0", "000", "0-", "02", "0 "):
            self.assertTrue(rejected(ONE_IN_ONE_OUT, start, C_GATES), start)
        self.assertTrue(rejected([], "0", []))

    def test_fewer_gates_than_signals(self):
        self.assertTrue(rejected([("a", "output"), ("b", "output")], "00", [("atomic", ())]))
        self.assertTrue(rejected([("a", "input")], "0", []))
        self.assertTrue(rejected(ONE_IN_ONE_OUT, "00", [None]))

    def test_inner_wires_without_signals(self):
        for gate in (("or", ()), ("and", ""), ("all", ()), None):
            self.assertTrue(rejected([], "", [gate]))

    def test_4000_and_4001_wires(self):
        gates = [("c", 1, 3999)] + [("and", "1")] * 3999
        netlist = Netlist([("a", "output")], "1", gates)
        self.assertEqual((len(netlist), netlist.initial), (4000, "1" * 4000))
        self.assertTrue(rejected([("a", "output")], "1", gates + [("and", "1")]))
        self.assertTrue(rejected([("a", "output")], "1", [("c", 1, 4000)] + [("and", "1")] * 4000))

    def test_inputs_have_no_gate_and_all_others_have_one(self):
        self.assertTrue(rejected(ONE_IN_ONE_OUT, "00", [("atomic", ()), ("atomic", ())]))
        self.assertTrue(rejected([("a", "input")], "0", [("and", "1")]))
        self.assertTrue(rejected(ONE_IN_ONE_OUT, "00", [None, None]))
        self.assertTrue(rejected([("a", "inner")], "0", [None]))
        self.assertTrue(rejected(ONE_IN_ONE_OUT, "00", [None, ("atomic", ()), None]))

    def test_kinds_of_gates(self):
        inner = [("and", "--"), ("or", ()), ("all", ())]
        signal = [("atomic", ()), ("latch", (), ()), ("c", 2, 3)]
        rest = [("and", "--"), ("and", "--")]
        for gate in signal:
            for kind in ("output", "inner"):
                self.assertFalse(rejected([("a", "input"), ("b", kind)], "00", [None, gate, *rest]))
            self.assertTrue(rejected(ONE_IN_ONE_OUT, "00", [None, ("atomic", ()), *rest, gate]))
        for gate in inner:
            self.assertFalse(rejected(ONE_IN_ONE_OUT, "00", [None, ("atomic", ()), *rest, gate]))
            self.assertTrue(rejected(ONE_IN_ONE_OUT, "00", [None, gate, *rest]))

    def test_cubes(self):
        for cube in ("", "1", "1--", "1 ", "1x", "12", "1+"):
            for gate in (("atomic", (cube,)), ("atomic", ("1-", cube)), ("latch", (cube,), ()), ("latch", (), (cube,)),
                         ("latch", ("1-",), ("0-", cube))):
                self.assertTrue(rejected(ONE_IN_ONE_OUT, "00", [None, gate]), gate)
            self.assertTrue(rejected(ONE_IN_ONE_OUT, "00", [None, ("atomic", ()), ("and", cube)]), cube)
        self.assertTrue(rejected([("a", "output"), ("b", "input"), ("c", "input")], "000",
                                 [("atomic", ("1x0",)), None, None]))
        self.assertFalse(rejected(ONE_IN_ONE_OUT, "00", [None, ("atomic", ("--", "01", "01")), ("and", "10")]))

    def test_wires_of_or_and_all_gates(self):
        rest = [None, ("atomic", ()), ("and", "--"), ("and", "--"), ("and", "--")]
        for kind in ("or", "all"):
            for wires in ((), (2,), (2, 3, 4), (3, 4)):
                self.assertFalse(rejected(ONE_IN_ONE_OUT, "00", [*rest, (kind, wires)]), wires)
            for wires in ((0,), (1,), (1, 2), (5,), (2, 5), (6,), (4, 6), (2, 2), (3, 2), (2, 3, 3), (-1,), (-1, 2),
                          (99,)):
                self.assertTrue(rejected(ONE_IN_ONE_OUT, "00", [*rest, (kind, wires), ("and", "--")]), wires)

    def test_wires_of_c_gates(self):
        rest = [("and", "--"), ("and", "--")]
        for sets, resets in ((2, 3), (3, 2)):
            self.assertFalse(rejected(ONE_IN_ONE_OUT, "00", [None, ("c", sets, resets), *rest]))
        for wires in ((2, 2), (0, 2), (2, 0), (1, 2), (2, 1), (4, 2), (2, 4), (-1, 2), (2, -1), (0, 1)):
            self.assertTrue(rejected(ONE_IN_ONE_OUT, "00", [None, ("c", *wires), *rest]), wires)


class Values(unittest.TestCase):
    def table(self, signals, gates, wire):
        """The value of the gate for all values of three wires, in their order."""
        netlist = Netlist(signals, "0" * len(signals), gates)
        self.assertEqual(len(netlist), 3)
        return "".join(netlist.gate_value(values, wire) for values in BITS)

    def test_and(self):
        signals = [("a", "input"), ("b", "input")]
        self.assertEqual(self.table(signals, [None, None, ("and", "10")], 2), "00001100")
        self.assertEqual(self.table(signals, [None, None, ("and", "-1")], 2), "00110011")
        self.assertEqual(self.table(signals, [None, None, ("and", "--")], 2), "11111111")

    def test_or_and_all(self):
        signals = [("a", "output"), ("b", "input"), ("c", "input"), ("d", "input")]
        for kind, wires, chosen in (("or", (4, 5), "0111"), ("all", (4, 5), "0001"), ("or", (5,), "0101"),
                                    ("all", (4,), "0011"), ("or", (), "0000"), ("all", (), "1111")):
            gates = [("atomic", ()), None, None, None, ("and", "1---"), ("and", "0---"), (kind, wires)]
            netlist = Netlist(signals, "0000", gates)
            for others in ("00000", "11111"):
                seen = "".join(netlist.gate_value(others[:4] + bits + others[4], 6) for bits in ("00", "01", "10", "11"))
                self.assertEqual(seen, chosen)

    def test_c(self):
        signals = [("a", "output")]
        self.assertEqual(self.table(signals, [("c", 1, 2), ("and", "1"), ("and", "0")], 0), "00101011")
        self.assertEqual(self.table(signals, [("c", 2, 1), ("and", "1"), ("and", "0")], 0), "01001101")

    def test_atomic(self):
        signals = [("a", "input"), ("b", "input"), ("c", "output")]
        self.assertEqual(self.table(signals, [None, None, ("atomic", ("11-", "--1"))], 2), "01010111")
        self.assertEqual(self.table(signals, [None, None, ("atomic", ())], 2), "00000000")
        self.assertEqual(self.table(signals, [None, None, ("atomic", ("---",))], 2), "11111111")

    def test_latch(self):
        signals = [("a", "input"), ("b", "input"), ("c", "output")]
        self.assertEqual(self.table(signals, [None, None, ("latch", ("1--",), ("-1-",))], 2), "01001101")
        self.assertEqual(self.table(signals, [None, None, ("latch", ("11-", "10-"), ("00-",))], 2), "00011111")
        self.assertEqual(self.table(signals, [None, None, ("latch", (), ())], 2), "01010101")
        self.assertEqual(self.table(signals, [None, None, ("latch", ("---",), ())], 2), "11111111")

    def test_initial_values(self):
        netlist = Netlist(ONE_IN_ONE_OUT, "00", C_GATES)
        self.assertEqual(netlist.initial, "000011")
        self.assertEqual(Netlist(ONE_IN_ONE_OUT, "10", C_GATES).initial, "101100")

    def test_initial_values_of_wires_that_read_wires(self):
        gates = [None, ("c", 7, 8), ("and", "1-"), ("and", "-0"), ("or", (2, 3)), ("all", (2, 3, 4)), ("or", (5,)),
                 ("all", (4, 6)), ("or", (5, 7))]
        self.assertEqual(Netlist(ONE_IN_ONE_OUT, "00", gates).initial, "000110000")
        self.assertEqual(Netlist(ONE_IN_ONE_OUT, "10", gates).initial, "101111111")
        self.assertEqual(Netlist(ONE_IN_ONE_OUT, "11", gates).initial, "111010000")

    def test_excited_wires(self):
        netlist = Netlist(ONE_IN_ONE_OUT, "00", C_GATES)
        self.assertEqual(netlist.excited("000011"), [])
        self.assertEqual(netlist.excited("100011"), [2, 4])
        self.assertEqual(netlist.excited("101100"), [1])
        self.assertEqual([netlist.is_excited("100011", wire) for wire in range(6)],
                         [False, False, True, False, True, False])
        self.assertFalse(netlist.is_excited("111111", 0))
        first = netlist.excited("100011")
        first.append(5)
        self.assertEqual(netlist.excited("100011"), [2, 4])

    def test_flipped_values(self):
        netlist = Netlist(ONE_IN_ONE_OUT, "00", C_GATES)
        self.assertEqual(netlist.flipped("000011", 0), "100011")
        self.assertEqual(netlist.flipped("000011", 5), "000010")
        self.assertEqual(netlist.flipped("000011", 3), "000111")
        self.assertEqual(netlist.initial, "000011")

    def test_against_the_words_of_the_document(self):
        for seed in range(150):
            netlist = random_netlist(seed)
            width = netlist.signal_count
            initial = netlist.start
            for wire in range(width, len(netlist)):
                initial += value_of(netlist.gates[wire], initial + "x", wire, width)
            self.assertEqual(netlist.initial, initial)
            self.assertEqual([wire for wire in netlist.excited(initial) if wire >= width], [])
            chance = random.Random(seed)
            for _ in range(20):
                values = "".join(chance.choice("01") for _ in range(len(netlist)))
                expected = [None if gate is None else value_of(gate, values, wire, width)
                            for wire, gate in enumerate(netlist.gates)]
                excited = [wire for wire, value in enumerate(expected) if value not in (None, values[wire])]
                self.assertEqual(netlist.excited(values), excited)
                for wire, value in enumerate(expected):
                    self.assertEqual(netlist.is_excited(values, wire), wire in excited)
                    if value is not None:
                        self.assertEqual(netlist.gate_value(values, wire), value)


class Equality(unittest.TestCase):
    def test_each_part(self):
        netlist = Netlist(ONE_IN_ONE_OUT, "00", C_GATES)
        self.assertTrue(netlist == Netlist(list(ONE_IN_ONE_OUT), "00", list(C_GATES)))
        self.assertFalse(netlist != Netlist(list(ONE_IN_ONE_OUT), "00", list(C_GATES)))
        gates = list(C_GATES)
        gates[2] = ("and", "11")
        for other in (Netlist([("x", "input"), ("b", "output")], "00", C_GATES),
                      Netlist([("a", "input"), ("b", "inner")], "00", C_GATES),
                      Netlist(ONE_IN_ONE_OUT, "01", C_GATES),
                      Netlist(ONE_IN_ONE_OUT, "00", gates),
                      Netlist(ONE_IN_ONE_OUT, "00", C_GATES + [("and", "11")])):
            self.assertFalse(netlist == other)
            self.assertTrue(netlist != other)

    def test_other_kinds_of_values(self):
        netlist = Netlist(ONE_IN_ONE_OUT, "00", C_GATES)
        for other in (None, "00", C_GATES, (netlist.signals, netlist.start, netlist.gates)):
            self.assertFalse(netlist == other)

    def test_wires_that_change_places(self):
        gates = [None, ("c", 5, 3), *C_GATES[2:]]
        self.assertFalse(Netlist(ONE_IN_ONE_OUT, "00", C_GATES) == Netlist(ONE_IN_ONE_OUT, "00", gates))
        self.assertFalse(Netlist([("a", "output")], "0", [("latch", ("1",), ("0",))])
                         == Netlist([("a", "output")], "0", [("latch", ("0",), ("1",))]))


def random_cube(chance, width):
    return "".join(chance.choice("01--") for _ in range(width))


def random_cubes(chance, width):
    return tuple(random_cube(chance, width) for _ in range(chance.randint(0, 3)))


def random_netlist(seed):
    """A small netlist with gates of all kinds."""
    chance = random.Random(seed)
    signals = [(name, chance.choice(["input", "output", "inner"])) for name in "abcd"[:chance.randint(1, 4)]]
    return random_netlist_for(chance, signals, "".join(chance.choice("01") for _ in signals))


def random_netlist_for(chance, signals, start):
    """A netlist with these signals and some inner wires."""
    width, inner = len(signals), chance.randint(2, 6)
    gates = []
    for _, kind in signals:
        driving = [("atomic", random_cubes(chance, width)), ("c", *chance.sample(range(width, width + inner), 2)),
                   ("latch", random_cubes(chance, width), random_cubes(chance, width))]
        gates.append(None if kind == "input" else chance.choice(driving))
    for wire in range(width, width + inner):
        some = chance.sample(range(width, wire), chance.randint(0, wire - width))
        gates.append(chance.choice([("and", random_cube(chance, width)), ("or", tuple(sorted(some))),
                                    ("all", tuple(sorted(some)))]))
    return Netlist(signals, start, gates)
