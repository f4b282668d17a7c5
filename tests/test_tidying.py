"""Points 74 and 75: sources, needed wires, tidied netlists."""

import random
import unittest

from clockless.boards import Board
from clockless.examining import examine, is_certificate
from clockless.netlists import Netlist
from clockless.tidying import needed, source, tidied
from tests.design_samples import designs
from tests.test_netlists import C_GATES, ONE_IN_ONE_OUT, random_cube, random_netlist

# One signal; the inner wires have the numbers from 1 on.
ONE = [("a", "output")]


def inner(*gates, signal=("atomic", ())):
    """A netlist of one signal with these gates of inner wires."""
    return Netlist(ONE, "0", [signal, *gates])


def gates_after(*gates, signal):
    return tidied(inner(*gates, signal=signal)).gates


def reference(netlist):
    """The gates of the tidied netlist, straight from the words of point 74."""
    count = len(netlist.signals)

    def found(wire):
        kind, *rest = netlist.gates[wire]
        return found(rest[0][0]) if kind == "or" and len(rest[0]) == 1 else wire

    gates = []
    for gate in netlist.gates:
        if gate and (gate[0] == "all" or gate[0] == "or" and len(gate[1]) >= 2):
            gate = (gate[0], tuple(sorted(set(map(found, gate[1])))))
        elif gate and gate[0] == "c" and found(gate[1]) != found(gate[2]):
            gate = ("c", found(gate[1]), found(gate[2]))
        gates.append(gate)
    kept, waiting = set(), [wire for gate in gates[:count] if gate and gate[0] == "c" for wire in gate[1:]]
    while waiting:
        wire = waiting.pop()
        kept.add(wire)
        waiting += gates[wire][1] if gates[wire][0] in ("or", "all") else []
    numbers = {wire: count + place for place, wire in enumerate(sorted(kept))}
    result = []
    for wire, gate in enumerate(gates):
        if wire < count or wire in kept:
            if gate and gate[0] == "c":
                gate = ("c", numbers[gate[1]], numbers[gate[2]])
            elif gate and gate[0] in ("or", "all"):
                gate = (gate[0], tuple(numbers[one] for one in gate[1]))
            result.append(gate)
    return tuple(result)


def chained_netlist(seed):
    """A netlist with many gates of one wire and of few different wires."""
    chance = random.Random(seed)
    signals = [(name, chance.choice(["input", "output", "inner"])) for name in "abc"[:chance.randint(1, 3)]]
    width, count = len(signals), chance.randint(3, 14)
    gates = []
    for _, kind in signals:
        c = ("c", *chance.sample(range(width, width + count), 2))
        gates.append(None if kind == "input" else chance.choice([c, c, ("atomic", (random_cube(chance, width),))]))
    for wire in range(width, width + count):
        size = chance.choice([0, 1, 1, 1, 2, 2, 3])
        wires = tuple(sorted(chance.sample(range(width, wire), min(size, wire - width))))
        gates.append(chance.choice([("and", random_cube(chance, width)), ("or", wires), ("or", wires), ("all", wires)]))
    return Netlist(signals, "0" * width, gates)


class Sources(unittest.TestCase):
    def test_chains(self):
        netlist = inner(("and", "1"), ("or", (1,)), ("or", (2,)), ("or", (3,)), ("or", (1, 4)), ("or", (5,)))
        self.assertEqual([source(netlist, wire) for wire in range(1, 7)], [1, 1, 1, 1, 5, 5])

    def test_other_gates_are_their_own_sources(self):
        netlist = inner(("and", "1"), ("all", (1,)), ("or", ()), ("or", (1, 2)), ("all", ()), ("all", (1, 2)))
        self.assertEqual([source(netlist, wire) for wire in range(1, 7)], [1, 2, 3, 4, 5, 6])
        netlist = inner(("or", ()), ("or", (1,)), ("all", (2,)), ("or", (3,)))
        self.assertEqual([source(netlist, wire) for wire in range(1, 5)], [1, 1, 3, 3])

    def test_a_long_chain(self):
        netlist = inner(("and", "1"), *[("or", (wire,)) for wire in range(1, 3999)])
        self.assertEqual([source(netlist, wire) for wire in (1, 2, 2000, 3999)], [1, 1, 1, 1])


class Needed(unittest.TestCase):
    def test_c_gates(self):
        self.assertEqual(needed(Netlist(ONE_IN_ONE_OUT, "00", C_GATES)), [2, 3, 4, 5])
        netlist = inner(("and", "1"), ("and", "0"), ("or", (1,)), ("all", (2, 3)), ("or", (2,)), signal=("c", 5, 3))
        self.assertEqual(needed(netlist), [1, 2, 3, 5])

    def test_wires_that_nothing_needs(self):
        self.assertEqual(needed(inner(("and", "1"), ("or", (1,)))), [])
        self.assertEqual(needed(inner(("and", "1"), ("or", (1,)), ("or", ()), signal=("c", 1, 3))), [1, 3])
        self.assertEqual(needed(Netlist([], "", [])), [])
        self.assertEqual(needed(Netlist([("a", "input")], "0", [None, ("and", "1")])), [])

    def test_sources_are_not_looked_for(self):
        netlist = inner(("and", "1"), ("or", (1,)), ("or", (2,)), ("and", "0"), signal=("c", 3, 4))
        self.assertEqual(needed(netlist), [1, 2, 3, 4])

    def test_several_signals(self):
        netlist = Netlist([("a", "output"), ("b", "inner"), ("c", "output")], "000",
                          [("c", 3, 5), ("latch", (), ()), ("c", 5, 7), ("and", "1--"), ("and", "0--"), ("or", (3,)),
                           ("and", "---"), ("all", (6,)), ("or", (4, 7))])
        self.assertEqual(needed(netlist), [3, 5, 6, 7])


class Tidied(unittest.TestCase):
    def test_gates_of_one_wire_are_left_out(self):
        self.assertEqual(tidied(Netlist(ONE_IN_ONE_OUT, "00", C_GATES)).gates,
                         (None, ("c", 2, 3), ("and", "1-"), ("and", "0-")))

    def test_chains(self):
        self.assertEqual(gates_after(("and", "1"), ("or", (1,)), ("or", (2,)), ("and", "0"), ("or", (4,)), ("or", (5,)),
                                     signal=("c", 3, 6)), (("c", 1, 2), ("and", "1"), ("and", "0")))

    def test_a_gate_that_reads_through_chains(self):
        self.assertEqual(gates_after(("and", "1"), ("or", (1,)), ("and", "0"), ("or", (3,)), ("or", (2, 4)),
                                     ("all", (2, 3, 4)), signal=("c", 5, 6)),
                         (("c", 3, 4), ("and", "1"), ("and", "0"), ("or", (1, 2)), ("all", (1, 2))))

    def test_the_order_of_sources(self):
        """The source of a greater wire may be the smaller one."""
        self.assertEqual(gates_after(("and", "1"), ("and", "0"), ("or", (1,)), ("or", (2, 3)), signal=("c", 4, 3)),
                         (("c", 3, 1), ("and", "1"), ("and", "0"), ("or", (1, 2))))

    def test_an_or_gate_that_becomes_a_gate_of_one_wire(self):
        gates = gates_after(("and", "1"), ("or", (1,)), ("or", (1, 2)), ("and", "0"), ("or", (3, 4)), signal=("c", 5, 3))
        self.assertEqual(gates, (("c", 4, 2), ("and", "1"), ("or", (1,)), ("and", "0"), ("or", (2, 3))))
        # Tidying once more takes the gate that has become one of a single wire away.
        again = tidied(Netlist(ONE, "0", list(gates)))
        self.assertEqual(again.gates, (("c", 3, 1), ("and", "1"), ("and", "0"), ("or", (1, 2))))
        self.assertEqual(tidied(again), again)

    def test_several_wires_of_one_source(self):
        self.assertEqual(gates_after(("and", "1"), ("or", (1,)), ("or", (1,)), ("or", (2,)), ("or", (2, 3, 4)),
                                     ("all", (2, 3, 4)), signal=("c", 5, 6)),
                         (("c", 2, 3), ("and", "1"), ("or", (1,)), ("all", (1,))))

    def test_c_gates_whose_wires_have_one_source(self):
        """Both wires stay, and with them the gates between them and their source."""
        self.assertEqual(gates_after(("and", "1"), ("or", (1,)), ("or", (2,)), signal=("c", 3, 2)),
                         (("c", 3, 2), ("and", "1"), ("or", (1,)), ("or", (2,))))
        self.assertEqual(gates_after(("and", "1"), ("or", (1,)), ("or", (1,)), signal=("c", 1, 3)),
                         (("c", 1, 2), ("and", "1"), ("or", (1,))))

    def test_a_gate_of_one_wire_that_stays_keeps_its_wire(self):
        gates = gates_after(("and", "0"), ("and", "1"), ("or", (2,)), ("or", (3,)), ("or", (4,)), signal=("c", 5, 2))
        self.assertEqual(gates, (("c", 4, 1), ("and", "1"), ("or", (1,)), ("or", (2,)), ("or", (3,))))

    def test_all_gates_of_one_wire_and_of_none(self):
        self.assertEqual(gates_after(("and", "1"), ("or", (1,)), ("all", (2,)), ("all", ()), signal=("c", 3, 4)),
                         (("c", 2, 3), ("and", "1"), ("all", (1,)), ("all", ())))
        self.assertEqual(gates_after(("or", ()), ("or", (1,)), ("all", ()), ("all", (2, 3)), signal=("c", 4, 2)),
                         (("c", 3, 1), ("or", ()), ("all", ()), ("all", (1, 2))))

    def test_wires_that_nothing_needs(self):
        self.assertEqual(gates_after(("and", "1"), ("or", (1,)), signal=("atomic", ("1",))), (("atomic", ("1",)),))
        self.assertEqual(gates_after(("and", "0"), ("and", "1"), ("or", (1, 2)), ("and", "-"), signal=("c", 2, 4)),
                         (("c", 1, 2), ("and", "1"), ("and", "-")))

    def test_nothing_to_tidy(self):
        for netlist in (Netlist([], "", []), Netlist([("a", "input")], "1", [None]),
                        inner(("and", "1"), ("and", "0"), ("or", (1, 2)), ("all", (1,)), signal=("c", 3, 4))):
            self.assertEqual(tidied(netlist), netlist)
            self.assertIsNot(tidied(netlist), netlist)

    def test_the_netlist_stays_as_it_is(self):
        netlist = Netlist(ONE_IN_ONE_OUT, "00", C_GATES)
        tidied(netlist)
        self.assertEqual(netlist, Netlist(ONE_IN_ONE_OUT, "00", C_GATES))

    def test_signals_and_start(self):
        netlist = Netlist([("a", "input"), ("b", "output")], "11", C_GATES)
        self.assertEqual((tidied(netlist).signals, tidied(netlist).start), (netlist.signals, "11"))

    def test_against_the_words_of_the_point(self):
        changed = 0
        for seed in range(1500):
            for netlist in (chained_netlist(seed), random_netlist(seed)):
                after = tidied(netlist)
                self.assertEqual(after.gates, reference(netlist))
                self.assertEqual((after.signals, after.start), (netlist.signals, netlist.start))
                self.assertLessEqual(len(after), len(netlist))
                changed += after != netlist
        self.assertGreater(changed, 1000)

    def test_large_netlists(self):
        wires = range(1, 3999)
        self.assertEqual(len(tidied(inner(("and", "1"), *[("or", (wire,)) for wire in wires], signal=("c", 3999, 1)))),
                         4000)
        self.assertEqual(gates_after(*[("and", "1")] * 3997, ("or", (1,)), ("or", tuple(range(1, 3999))),
                                     signal=("c", 3999, 1))[0], ("c", 3998, 1))


class Designs(unittest.TestCase):
    def test_tidying_twice(self):
        fewer = 0
        for _, made in designs():
            after = tidied(made.netlist)
            self.assertEqual(tidied(after), after)
            self.assertEqual((after.signals, after.start), (made.netlist.signals, made.netlist.start))
            self.assertLessEqual(len(after), len(made.netlist))
            fewer += len(after) < len(made.netlist)
        self.assertGreater(fewer, 20)

    def test_examinations_find_no_flaw(self):
        for _, made in designs():
            board = Board(made.spec, tidied(made.netlist))
            states = examine(board, limit=20000)
            self.assertTrue(is_certificate(board, states))
