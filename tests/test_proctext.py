"""Point 65: the written form of programs."""

import random
import unittest

from clockless.errors import InvalidText
from clockless.processes import Program
from clockless.proctext import format_process, format_program, parse_program
from tests.process_reference import SIGNALS, choice, edge, nested, par, random_process, seq

LINES = ["signal a input 0", "signal b output 1", "signal c inner 0"]

# Texts of processes, and the processes.
TEXTS = [
    ("a+", edge("a+")),
    ("c-", edge("c-")),
    ("a+ ; b+", seq("a+", "b+")),
    ("a+ | b+ | c+", par("a+", "b+", "c+")),
    ("a+ / b+", choice("a+", "b+")),
    ("( a+ | b+ ) ; c+", seq(par("a+", "b+"), "c+")),
    ("c+ ; ( a+ | b+ )", seq("c+", par("a+", "b+"))),
    ("a+ ; ( b+ / c+ ) ; a-", seq("a+", choice("b+", "c+"), "a-")),
    ("a+ ; b+ | c+", par(seq("a+", "b+"), "c+")),
    ("c+ | a+ ; b+ | c-", par("c+", seq("a+", "b+"), "c-")),
    ("( a+ | b+ ) | c+", par(par("a+", "b+"), "c+")),
    ("c+ | ( a+ | b+ )", par("c+", par("a+", "b+"))),
    ("( a+ / b+ ) | c+", par(choice("a+", "b+"), "c+")),
    ("a+ ; b+ / c+", choice(seq("a+", "b+"), "c+")),
    ("( a+ | b+ ) / c+", choice(par("a+", "b+"), "c+")),
    ("c+ / ( a+ / b+ )", choice("c+", choice("a+", "b+"))),
    ("a+ ; ( b+ ; c+ | c- ; b- ) ; a-", seq("a+", par(seq("b+", "c+"), seq("c-", "b-")), "a-")),
    ("a+ ; ( b+ ; ( a+ / c+ ) | c- ) / b-", choice(seq("a+", par(seq("b+", choice("a+", "c+")), "c-")), "b-")),
    ("( a+ | b+ ) ; ( c+ / c- )", seq(par("a+", "b+"), choice("c+", "c-"))),
    ("a+ ; a+ ; a+ ; a+ ; a+ ; a+ ; a+ ; a+", seq(*["a+"] * 8)),
]


def told(lines):
    """The line that is told for the lines of a text, or None if the text is accepted."""
    try:
        program = parse_program("\n".join(lines))
    except InvalidText as error:
        return error.line
    assert format_program(program) == "\n".join(lines)
    return None


def deep_text(levels):
    """The text of a process of so many levels."""
    return format_process(nested(levels), SIGNALS)


class Format(unittest.TestCase):
    def test_processes(self):
        for text, process in TEXTS:
            self.assertEqual(format_process(process, SIGNALS[:3]), text)
            self.assertEqual(format_process(process, tuple(SIGNALS)), text)

    def test_a_sequence_in_a_sequence(self):
        """It is not well formed; where it is written, it has the parentheses that are due to it."""
        self.assertEqual(format_process(seq(seq("a+", "b+"), "c+"), SIGNALS), "( a+ ; b+ ) ; c+")

    def test_names(self):
        signals = [("req", "input"), ("ack2", "output")]
        self.assertEqual(format_process(seq("a+", choice("b-", "a-")), signals), "req+ ; ( ack2- / req- )")

    def test_a_program(self):
        program = Program([("a", "input"), ("b", "output"), ("c", "inner")], "010", [edge("a+"), par("b-", "c+")])
        self.assertEqual(format_program(program), "\n".join([*LINES, "loop a+", "loop b- | c+"]))

    def test_equal_edges_are_not_told_apart(self):
        self.assertEqual(format_process(seq("a+", "a+"), SIGNALS), "a+ ; a+")


class Parse(unittest.TestCase):
    def test_processes(self):
        for text, process in TEXTS:
            program = parse_program("\n".join([*LINES, "loop " + text]))
            self.assertIsInstance(program, Program)
            self.assertEqual(program.loops, (process,))
            self.assertEqual((program.signals, program.start), (
                (("a", "input"), ("b", "output"), ("c", "inner")), "010"))

    def test_several_loops(self):
        lines = [*LINES, *["loop " + text for text, _ in TEXTS[4:8]]]
        self.assertEqual(parse_program("\n".join(lines)).loops, tuple(process for _, process in TEXTS[4:8]))

    def test_there_and_back(self):
        for seed in range(400):
            chance = random.Random(seed)
            loops = [random_process(chance, chance.randint(1, 6)) for _ in range(chance.randint(1, 4))]
            program = Program(SIGNALS[:4], "0101", loops)
            again = parse_program(format_program(program))
            self.assertEqual((again.signals, again.start, again.loops), (program.signals, "0101", tuple(loops)))

    def test_eight_signals(self):
        lines = [f"signal x{k} input 0" for k in range(8)]
        self.assertEqual(len(parse_program("\n".join([*lines, "loop x7+ ; x0-"])).signals), 8)


class Wrong(unittest.TestCase):
    def loop(self, text):
        """Whether a loop with this text is wrong."""
        lines = [*LINES, "loop a+"]
        both = told([*lines, "loop " + text])
        assert both in (None, 5)
        assert told([*LINES, "loop " + text, "x"]) == (5 if both is None else 4)
        return both == 5

    def test_the_texts_of_the_other_tests_are_right(self):
        for text, _ in TEXTS:
            self.assertFalse(self.loop(text))

    def test_lines_that_are_no_signals_and_no_loops(self):
        for text in ("", " ", "loops a+", "Loop a+", "places 1 0", "gate 0 or", "a+", "signals", "loop", "loop ",
                     "loop  a+", "loop: a+", "proc a+"):
            self.assertEqual(told([text, *LINES, "loop a+"]), 1)
            self.assertEqual(told([*LINES, text, "loop a+"]), 4)
            self.assertEqual(told([*LINES, "loop a+", text]), 5)

    def test_signals(self):
        for text in ("signal", "signal d", "signal d input", "signal d input 2", "signal D input 0", "signal a input 0",
                     "signal d wire 0", "signal d input 0 0", " signal d input 0", "signal d input 0 ",
                     "signal  d input 0", "signal abcdefghijklm input 0", "signal b inner 1", "signal 1 input 0"):
            self.assertEqual(told([*LINES, text, "loop a+"]), 4, text)
        self.assertIsNone(told([*LINES, "signal abcdefghijkl input 0", "loop abcdefghijkl+"]))

    def test_a_ninth_signal(self):
        lines = [f"signal x{k} input 0" for k in range(9)]
        self.assertIsNone(told([*lines[:8], "loop x0+"]))
        self.assertEqual(told([*lines, "loop x0+"]), 9)

    def test_a_signal_after_a_loop(self):
        self.assertEqual(told([*LINES, "loop a+", "signal d input 0"]), 5)
        self.assertEqual(told([*LINES, "loop a+", "signal d input 0", "loop d+"]), 5)
        self.assertEqual(told(["loop a+", "signal a input 0"]), 1)

    def test_loops(self):
        loops = ["loop a+", "loop a+ ; b+", "loop c-", "loop b+", "loop a-"]
        for count in range(1, 5):
            self.assertIsNone(told([*LINES, *loops[:count]]))
        self.assertEqual(told([*LINES, *loops]), 8)
        self.assertEqual(told([*LINES, *loops, "x"]), 8)
        self.assertEqual(told([*LINES, *loops[:4], "loop x"]), 8)

    def test_no_loop(self):
        self.assertEqual(told(LINES), 4)
        self.assertEqual(told(LINES[:1]), 2)
        self.assertEqual(told([""]), 1)
        self.assertEqual(told(["", ""]), 1)
        self.assertEqual(told([*LINES, ""]), 4)
        self.assertEqual(told(["loop a+"]), 1)

    def test_newlines(self):
        self.assertEqual(told([*LINES, "loop a+", ""]), 5)
        self.assertEqual(told([*LINES, "loop a+", "loop b+", "", ""]), 6)
        self.assertEqual(told([LINES[0], "", *LINES[1:], "loop a+"]), 2)

    def test_edges(self):
        for text in ("a", "d+", "A+", "a*", "a++", "+", "-", "a +", "a+/2", "a+/1", "+a", "b+-", "ab+", "", "a=",
                     "a+;b+", "a+; b+", "a+ ;b+"):
            self.assertTrue(self.loop(text), text)
            self.assertTrue(self.loop("a+ ; " + text), text)
            self.assertTrue(self.loop(f"b+ | ( {text} / c+ )"), text)

    def test_separators(self):
        for text in ("a+ ;", "; a+", "a+ ; ; b+", "a+ b+", "a+ ; b+ ;", "|", ";", "/", "a+ | b+ |", "| a+ | b+",
                     "a+ | | b+", "a+ / / b+", "a+ | b+ / c+", "a+ / b+ | c+", "a+ ; b+ | c+ / a-", "a+ , b+", "a+ & b+",
                     "a+ | ; b+", "a+ ; | b+", "a+ / b+ ; c+ | a-"):
            self.assertTrue(self.loop(text), text)

    def test_parentheses_that_are_missing(self):
        for text in ("( a+ | b+ ; c+", "a+ | b+ ) ; c+", "( a+ | b+", "a+ | b+ )", "( ( a+ | b+ ) ; c+", ")", "(", "( )",
                     ") a+ | b+ (", ") (", "a+ ; ( b+ | c+", "( a+ | ( b+ / c+ ) ; a-", "a+ ) ; ( b+", "( ;", "; )",
                     "a+ ; ( b+ / ( c+ | a- ) ; b-", "a+ ; b+ / c+ ) | b+"):
            self.assertTrue(self.loop(text), text)

    def test_parentheses_that_are_needless(self):
        for text in ("( a+ )", "( a+ ; b+ )", "( a+ | b+ )", "( a+ / b+ )", "a+ ; ( b+ )", "( a+ ) ; b+", "( a+ ) | b+",
                     "( a+ ; b+ ) | c+", "a+ / ( b+ ; c+ )", "( a+ ; b+ ) ; c+", "a+ ; ( b+ ; c+ )",
                     "a+ ; ( b+ | ( c+ ) )", "a+ ; ( ( b+ ; c+ ) | a- )", "a+ ; ( b+ / ( c+ ; a- ) )"):
            self.assertTrue(self.loop(text), text)

    def test_parentheses_that_are_doubled(self):
        for text in ("( ( a+ | b+ ) ) ; c+", "a+ ; ( ( b+ / c+ ) )", "a+ | ( ( b+ | c+ ) )", "( ( a+ ) )",
                     "( ( a+ | b+ ) ; c+ )", "a+ ; ( ( b+ | c+ ) ) ; a-", "( ( a+ | b+ ) | c+ )"):
            self.assertTrue(self.loop(text), text)
        for text in ("(( a+ | b+ ) ; c+", "(a+ | b+) ; c+", "( a+ | b+) ; c+", "a+ ; (b+ | c+ )", "( ( a+ | b+ )) ; c+"):
            self.assertTrue(self.loop(text), text)

    def test_the_number_of_parts(self):
        for separator in (" ; ", " | ", " / "):
            for count in range(2, 12):
                self.assertEqual(self.loop(separator.join(["a+"] * count)), count > 8)
                self.assertEqual(self.loop("b+ ; ( c+ | " + (" ; ".join(["a+"] * count)) + " )"), count > 8)
        self.assertTrue(self.loop(" ; ".join(["a+"] * 5000)))

    def test_depth(self):
        for levels in (2, 11, 12, 13, 14, 20):
            self.assertEqual(self.loop(deep_text(levels)), levels > 12, levels)
            self.assertEqual(self.loop("a+ / " + deep_text(levels - 1).join(["( ", " )"])),
                             levels > 12 or deep_text(levels - 1) == "a+" or nested(levels - 1)[0] == "seq", levels)

    def test_parentheses_to_any_depth(self):
        for count in (3, 12, 13, 100, 300, 999, 5000, 20000):
            self.assertTrue(self.loop("( " * count + "a+" + " )" * count))
            self.assertTrue(self.loop("( " * count + "a+ | b+" + " )" * count))
            self.assertTrue(self.loop("( " * count + "a+"))
            self.assertTrue(self.loop("a+" + " )" * count))
            self.assertTrue(self.loop(" ".join(["("] * count)))
            self.assertTrue(self.loop("a+ ; ( " * count + "b+ | c+" + " )" * count))
            self.assertTrue(self.loop(") " * count + "a+ ; b+" + " (" * count))
            self.assertEqual(self.loop("( a+ | b+ ) ; " * count + "c+"), count > 7)
            self.assertEqual(self.loop("( a+ | " * count + "b+" + " ) ; a-" * count), count > 5)

    def test_depth_by_sequences_in_branches(self):
        """Each pair of parentheses adds two levels here."""
        for count in range(1, 8):
            text = "( a+ | " * count + "b+" + " ) ; a-" * count
            self.assertEqual(self.loop(text), 2 * count + 1 > 12)

    def test_spaces(self):
        for text, process in TEXTS:
            for wrong in (" " + text, text + " ", text.replace(" ", "  ", 1), "  ".join(text.rsplit(" ", 1)),
                          text.replace(" ", "", 1), "".join(text.rsplit(" ", 1))):
                if wrong != text:
                    self.assertTrue(self.loop(wrong), wrong)
        self.assertEqual(told([*LINES, " loop a+"]), 4)
        self.assertEqual(told([*LINES, "loop a+ "]), 4)
        self.assertEqual(told([LINES[0] + " ", *LINES[1:], "loop a+"]), 1)

    def test_words_in_any_order(self):
        """A text is accepted exactly if it is the text of some process: all texts of some words are tried."""
        accepted = {format_process(process, SIGNALS[:1]) for process in self.small_processes()}
        found = set()
        words = ["a+", ";", "|", "/", "(", ")"]
        texts = [[word] for word in words]
        while texts:
            text = texts.pop()
            if told(["signal a input 0", "loop " + " ".join(text)]) is None:
                found.add(" ".join(text))
            if len(text) < 5:
                texts += [[*text, word] for word in words]
        self.assertEqual(found, {text for text in accepted if len(text.split(" ")) <= 5})

    def test_longer_texts(self):
        """Texts in which one or two words were changed, removed or put in."""
        chance = random.Random(5)
        accepted = {format_process(process, SIGNALS[:1]) for process in self.small_processes()}
        words = ["a+", ";", "|", "/", "(", ")"]
        kept = 0
        for text in sorted(accepted):
            for _ in range(6):
                changed = text.split(" ")
                for _ in range(chance.randint(1, 2)):
                    at = chance.randrange(len(changed))
                    changed[at:at + chance.randint(0, 1)] = chance.sample(words, chance.randint(0, 1))
                    changed = changed or ["a+"]
                right = told(["signal a input 0", "loop " + " ".join(changed)]) is None
                kept += right
                if changed.count("a+") <= 4:
                    self.assertEqual(right, " ".join(changed) in accepted, changed)
        self.assertGreater(kept, 10)

    def small_processes(self):
        """All processes of one edge that have at most four of them."""
        made = {1: [edge("a+")]}
        for count in (2, 3, 4):
            made[count] = []
            for kind in ("seq", "par", "choice"):
                for parts in self.divided(count, made):
                    if kind != "seq" or "seq" not in [part[0] for part in parts]:
                        made[count].append((kind, parts))
        return [process for count in made for process in made[count]]

    def divided(self, count, made):
        """All tuples of two or more smaller processes with so many edges together."""
        def continued(left):
            if left == 0:
                return [()]
            return [(part, *rest) for size in range(1, min(left, count - 1) + 1) for part in made[size]
                    for rest in continued(left - size)]
        return continued(count)
