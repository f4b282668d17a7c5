"""Point 47: the written form of netlists."""

import unittest

from clockless.errors import InvalidText
from clockless.netlists import Netlist
from clockless.nettext import format_netlist, parse_netlist
from tests.test_netlists import C_GATES, ONE_IN_ONE_OUT, random_netlist

HANDSHAKE = ["signal a input 0", "signal b output 0", "gate 1 c 3 5", "gate 2 and 1-", "gate 3 or 2", "gate 4 and 0-",
             "gate 5 or 4"]
EACH_KIND = [
    "signal a input 0", "signal b output 1", "signal c inner 0", "signal d output 1",
    "gate 1 atomic 1--- -01-", "gate 2 latch 1--- to 0--- ---1", "gate 3 c 6 4", "gate 4 and 10-1", "gate 5 or 4",
    "gate 6 all 4 5", "gate 7 or", "gate 8 all",
]
EMPTY = ["signal a output 0", "signal b output 0", "signal c output 0", "gate 0 atomic", "gate 1 latch to",
         "gate 2 latch 1-- to"]


def wrong_line(lines):
    """The line that is told for the lines of a text, or None if the text is accepted."""
    try:
        parse_netlist("\n".join(lines))
    except InvalidText as error:
        return error.line
    return None


class Format(unittest.TestCase):
    def test_a_handshake(self):
        self.assertEqual(format_netlist(Netlist(ONE_IN_ONE_OUT, "00", C_GATES)), "\n".join(HANDSHAKE))

    def test_each_kind_of_gate(self):
        signals = [("a", "input"), ("b", "output"), ("c", "inner"), ("d", "output")]
        gates = [None, ("atomic", ("1---", "-01-")), ("latch", ("1---",), ("0---", "---1")), ("c", 6, 4),
                 ("and", "10-1"), ("or", (4,)), ("all", (4, 5)), ("or", ()), ("all", ())]
        self.assertEqual(format_netlist(Netlist(signals, "0101", gates)), "\n".join(EACH_KIND))

    def test_gates_without_cubes(self):
        signals = [("a", "output"), ("b", "output"), ("c", "output")]
        gates = [("atomic", ()), ("latch", (), ()), ("latch", ("1--",), ())]
        self.assertEqual(format_netlist(Netlist(signals, "000", gates)), "\n".join(EMPTY))

    def test_no_signals(self):
        self.assertEqual(format_netlist(Netlist([], "", [])), "")

    def test_inputs_only(self):
        self.assertEqual(format_netlist(Netlist([("a", "input")], "1", [None])), "signal a input 1")
        netlist = Netlist([("a", "input")], "1", [None, ("and", "0")])
        self.assertEqual(format_netlist(netlist), "signal a input 1\ngate 1 and 0")


class Parse(unittest.TestCase):
    def test_each_kind_of_gate(self):
        for lines in (HANDSHAKE, EACH_KIND, EMPTY):
            netlist = parse_netlist("\n".join(lines))
            self.assertIsInstance(netlist, Netlist)
            self.assertEqual(format_netlist(netlist), "\n".join(lines))
        self.assertEqual(parse_netlist("\n".join(HANDSHAKE)), Netlist(ONE_IN_ONE_OUT, "00", C_GATES))

    def test_no_signals(self):
        self.assertEqual(parse_netlist(""), Netlist([], "", []))

    def test_inputs_only(self):
        self.assertEqual(parse_netlist("signal a input 1"), Netlist([("a", "input")], "1", [None]))
        self.assertEqual(parse_netlist("signal a input 1\ngate 1 or"), Netlist([("a", "input")], "1", [None, ("or", ())]))

    def test_inputs_between_and_behind_driven_signals(self):
        lines = ["signal a output 0", "signal b input 1", "signal c inner 0", "signal d input 0", "gate 0 atomic",
                 "gate 2 latch to", "gate 4 all"]
        gates = [("atomic", ()), None, ("latch", (), ()), None, ("all", ())]
        signals = [("a", "output"), ("b", "input"), ("c", "inner"), ("d", "input")]
        self.assertEqual(parse_netlist("\n".join(lines)), Netlist(signals, "0100", gates))
        self.assertEqual(parse_netlist("\n".join(lines[:-1])), Netlist(signals, "0100", gates[:-1]))

    def test_there_and_back(self):
        for seed in range(200):
            netlist = random_netlist(seed)
            self.assertEqual(parse_netlist(format_netlist(netlist)), netlist)

    def test_4000_wires(self):
        lines = ["signal a output 0", "gate 0 c 1 3999"] + [f"gate {wire} and 1" for wire in range(1, 4000)]
        self.assertEqual(len(parse_netlist("\n".join(lines))), 4000)
        self.assertEqual(wrong_line(lines + ["gate 4000 and 1"]), 4002)


class Wrong(unittest.TestCase):
    """Each text has one wrong line, and its number is told."""

    def gate(self, text, *, before=("gate 1 atomic", "gate 2 and 1-", "gate 3 and 0-")):
        """What is told of a line for a gate behind lines that are correct."""
        lines = ["signal a input 0", "signal b output 0", *before]
        assert wrong_line(lines) is None or not before
        told = wrong_line([*lines, text])
        assert told in (None, len(lines) + 1, len(lines) + 2)
        return told == len(lines) + 1

    def test_lines_that_are_no_signals_and_no_gates(self):
        for text in ("places 1 0", "gates 1 atomic", "Signal a input 0", "", " ", "a", "wire 1"):
            self.assertEqual(wrong_line([text, "signal b input 0"]), 1)
            self.assertEqual(wrong_line(["signal b input 0", text]), 2)
            self.assertTrue(self.gate(text))

    def test_signals(self):
        for text in ("signal", "signal a", "signal a input", "signal a input 2", "signal a input 00", "signal A input 0",
                     "signal a wire 0", "signal a input 0 0", "signal a input -", "signal 1a input 0",
                     "signal abcdefghijklm input 0", "signal b output 0", "signal b input 0"):
            self.assertEqual(wrong_line(["signal b input 0", text]), 2, text)
        self.assertIsNone(wrong_line(["signal b input 0", "signal abcdefghijkl input 1"]))

    def test_a_ninth_signal(self):
        lines = [f"signal x{k} input 0" for k in range(9)]
        self.assertIsNone(wrong_line(lines[:8]))
        self.assertEqual(wrong_line(lines), 9)
        self.assertEqual(wrong_line([*lines[:8], "gate 8 or", "signal y input 0"]), 10)

    def test_a_signal_behind_a_gate(self):
        self.assertEqual(wrong_line(["signal a output 0", "gate 0 atomic", "signal b input 0"]), 3)
        self.assertEqual(wrong_line(["signal a input 0", "gate 1 or", "signal b input 0"]), 3)

    def test_a_line_before_any_signal(self):
        for text in ("gate 0 atomic", "gate 0 or", "gate 0 and ", "gate 0 all", "gate 0 latch to", "gate 0 c 1 2"):
            self.assertEqual(wrong_line([text]), 1)
            self.assertEqual(wrong_line([text, "signal a output 0"]), 1)
        self.assertEqual(wrong_line(["gate 0 and"]), 1)

    def test_the_number_of_a_gate(self):
        for number in ("0", "2", "3", "", "01", "+1", "-1", "1.0", "x", "1" * 5000, "0" * 5000 + "1"):
            self.assertEqual(wrong_line(["signal a input 0", "signal b output 0", f"gate {number} atomic"]), 3, number)
        for number in ("0", "1", "2", "3", "5", "04", "", "4" * 5000):
            self.assertTrue(self.gate(f"gate {number} or"), number)
        self.assertFalse(self.gate("gate 4 or"))

    def test_an_inner_wire_before_all_driven_signals(self):
        lines = ["signal a output 0", "signal b output 0", "gate 0 atomic"]
        self.assertEqual(wrong_line([*lines, "gate 2 or"]), 4)
        self.assertEqual(wrong_line([*lines, "gate 1 or"]), 4)
        self.assertIsNone(wrong_line([*lines, "gate 1 atomic", "gate 2 or"]))

    def test_the_kind_of_a_gate(self):
        for kind in ("", "And", "nand", "not 2", "none", "None", "atom", "to", "c1"):
            self.assertTrue(self.gate(f"gate 4 {kind}"), kind)
            self.assertTrue(self.gate(f"gate 1 {kind}", before=()), kind)
        self.assertTrue(self.gate("gate 4"))
        self.assertTrue(self.gate("gate"))
        for text in ("atomic", "latch to", "c 2 3"):
            self.assertTrue(self.gate(f"gate 4 {text}"), text)
        for text in ("and --", "or", "all"):
            self.assertTrue(self.gate(f"gate 1 {text}", before=()), text)

    def test_too_few_and_too_many_words(self):
        for text in ("gate 4 and", "gate 4 and -- --", "gate 4 and 1- 0-", "gate 4 and 1- to"):
            self.assertTrue(self.gate(text), text)
        for text in ("gate 1 c", "gate 1 c 2", "gate 1 c 2 3 4", "gate 1 c 2 to 3", "gate 1 latch", "gate 1 latch 1-",
                     "gate 1 latch to to", "gate 1 latch 1- to 0- to", "gate 1 latch to 1- to", "gate 1 atomic to",
                     "gate 1 atomic 1- to 0-"):
            self.assertTrue(self.gate(text, before=()), text)

    def test_cubes(self):
        for cube in ("1", "1--", "1x", "x-", "10+", "2-", "0" * 5000):
            self.assertTrue(self.gate(f"gate 4 and {cube}"), cube)
            for text in ("atomic", "atomic --", "latch to", "latch", "latch -- to"):
                for words in (f"gate 1 {text} {cube}", f"gate 1 latch {cube} to", f"gate 1 atomic {cube} --"):
                    self.assertTrue(self.gate(words, before=()), words)
        self.assertFalse(self.gate("gate 1 atomic -- -- 01", before=()))

    def test_wires_of_or_and_all_gates(self):
        for kind in ("or", "all"):
            for wires in ("0", "1", "1 2", "4", "2 4", "5", "3 2", "2 2", "2 3 3", "-1", "x", "02", "2 03", "+2",
                          "2,3", "2" * 5000, "2 " + "9" * 5000, "4000", "1-"):
                self.assertTrue(self.gate(f"gate 4 {kind} {wires}"), wires)
            for wires in ("2", "3", "2 3"):
                self.assertFalse(self.gate(f"gate 4 {kind} {wires}"), wires)

    def test_wires_of_c_gates(self):
        for wires in ("2 2", "0 2", "2 0", "1 2", "2 1", "02 3", "2 03", "-2 3", "2 x", "4000 2", "2 4000", "2 1-",
                      "2 " + "3" * 5000, "9" * 5000 + " 2", "5 5", "4000 4000"):
            self.assertTrue(self.gate(f"gate 1 c {wires}", before=()), wires)
        for wires in ("2 3", "3 2"):
            self.assertIsNone(wrong_line(["signal a input 0", "signal b output 0", f"gate 1 c {wires}", "gate 2 or",
                                          "gate 3 or"]))

    def test_wires_of_c_gates_that_do_not_exist(self):
        lines = ["signal a input 0", "signal b output 0", "gate 1 c 3 5", "gate 2 and 1-", "gate 3 or 2"]
        self.assertEqual(wrong_line(lines), 6)
        self.assertEqual(wrong_line([*lines, "gate 4 or"]), 7)
        self.assertIsNone(wrong_line([*lines, "gate 4 or", "gate 5 or"]))
        self.assertEqual(wrong_line(["signal a output 0", "gate 0 c 3999 1", "gate 1 or"]), 4)
        self.assertEqual(wrong_line(["signal a output 0", "gate 0 c 1 3999", "gate 1 or"]), 4)
        self.assertEqual(wrong_line([*lines, "gate 4 or 4"]), 6)

    def test_missing_gates(self):
        self.assertEqual(wrong_line(["signal a output 0"]), 2)
        self.assertEqual(wrong_line(["signal a output 0", "signal b input 0"]), 3)
        self.assertEqual(wrong_line(["signal a input 0", "signal b inner 0"]), 3)
        self.assertEqual(wrong_line(["signal a output 0", "signal b output 0", "gate 0 atomic"]), 4)
        self.assertEqual(wrong_line(["signal a output 0", "signal b input 0", "signal c output 0", "gate 0 atomic"]), 5)

    def test_spaces(self):
        for index, line in enumerate(HANDSHAKE):
            for changed in (" " + line, line + " ", line.replace(" ", "  ", 1), "  ".join(line.rsplit(" ", 1)),
                            line.replace(" ", "", 1)):
                lines = HANDSHAKE[:index] + [changed] + HANDSHAKE[index + 1:]
                self.assertEqual(wrong_line(lines), index + 1, changed)
        for text in ("gate 4 or ", "gate 4 or  2", "gate 4 all 2  3"):
            self.assertTrue(self.gate(text), text)
        for text in ("gate 1 atomic ", "gate 1 latch  to", "gate 1 latch to ", "gate 1 latch 1-  to 0-"):
            self.assertTrue(self.gate(text, before=()), text)

    def test_newlines(self):
        for lines in (HANDSHAKE, EACH_KIND, EMPTY):
            self.assertEqual(wrong_line([*lines, ""]), len(lines) + 1)
            self.assertEqual(wrong_line(["", *lines]), 1)
            self.assertEqual(wrong_line([*lines[:2], "", *lines[2:]]), 3)
        self.assertEqual(wrong_line(["", ""]), 1)

    def test_the_first_wrong_line_is_told(self):
        self.assertEqual(wrong_line(["signal a input 0", "x", "y"]), 2)
        self.assertEqual(wrong_line(["signal a output 0", "gate 0 c 1 2", "gate 1 x"]), 3)

    def test_lines_that_are_left_out_or_doubled(self):
        for lines in (HANDSHAKE, EACH_KIND):
            for index in range(len(lines)):
                told = wrong_line(lines[:index + 1] + lines[index:])
                self.assertEqual(told, index + 2)
        self.assertEqual([wrong_line(HANDSHAKE[:k] + HANDSHAKE[k + 1:]) for k in range(7)], [2, 2, 3, 4, 5, 6, 7])
