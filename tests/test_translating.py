"""Points 62 to 64: widths, connectable and closed processes, translations and their traces."""

import unittest

from clockless.errors import InvalidNet, NotTranslatable
from clockless.processes import Program, is_well_formed
from clockless.spectext import format_spec
from clockless.translating import back_width, front_width, is_closed, is_connectable, translate
from tests.board_reference import enabled_transitions, fired
from tests.process_reference import SIGNALS, choice, edge, par, random_program, seq

LOOP = seq("a+", "b+")
TWO, THREE = par("a+", "b+"), par("a-", "b-", "c-")
ONE = choice("a+", "b+")


def net_lines(*loops):
    """The lines for the places and the transitions of a program's translation."""
    return format_spec(translate(Program(SIGNALS[:4], "0000", list(loops)))).split("\n")[4:]


def refused_loop(*loops):
    """The loop that is told, or None."""
    try:
        translate(Program(SIGNALS[:3], "000", list(loops)))
    except NotTranslatable as error:
        return error.loop
    return None


class Widths(unittest.TestCase):
    def widths(self, process):
        return front_width(process), back_width(process)

    def test_edges_are_open(self):
        self.assertEqual(self.widths(edge("a+")), (None, None))

    def test_branches(self):
        self.assertEqual(self.widths(TWO), (2, 2))
        self.assertEqual(self.widths(THREE), (3, 3))
        self.assertEqual(self.widths(par(*["a+"] * 8)), (8, 8))
        self.assertEqual(self.widths(par(ONE, LOOP)), (2, 2))

    def test_choices(self):
        self.assertEqual(self.widths(ONE), (1, 1))
        self.assertEqual(self.widths(choice(seq(TWO, "a+"), "b+", "c+")), (1, 1))

    def test_sequences(self):
        self.assertEqual(self.widths(LOOP), (None, None))
        self.assertEqual(self.widths(seq(TWO, "a+")), (2, None))
        self.assertEqual(self.widths(seq("a+", THREE)), (None, 3))
        self.assertEqual(self.widths(seq(TWO, "a+", THREE)), (2, 3))
        self.assertEqual(self.widths(seq(ONE, "a+", "b+", ONE)), (1, 1))
        self.assertEqual(self.widths(seq(THREE, ONE)), (3, 1))
        self.assertEqual(self.widths(seq("a+", TWO, "b+")), (None, None))


class Connectable(unittest.TestCase):
    def both(self, process):
        """Whether the process is connectable, which it also is deep inside others."""
        told = is_connectable(process)
        for inner in (choice("c+", seq("a+", process, "b+")) if process[0] != "seq" else choice("c+", process),
                      par(choice("a+", process), "c+")):
            if told:
                continue
            self.assertFalse(is_connectable(inner))
            self.assertFalse(is_closed(inner))
            self.assertFalse(is_closed(seq("c+", inner, "c-")))
        return told

    def test_edges(self):
        self.assertTrue(is_connectable(edge("a+")))
        self.assertTrue(is_connectable(LOOP))
        self.assertTrue(is_connectable(TWO))
        self.assertTrue(is_connectable(ONE))

    def test_sequences(self):
        for process, expected in ((seq(TWO, TWO), False), (seq(TWO, THREE), False), (seq(TWO, ONE), False),
                                  (seq(ONE, TWO), False), (seq(ONE, ONE), True), (seq(TWO, "a+"), True),
                                  (seq("a+", TWO), True), (seq(TWO, "a+", THREE), True),
                                  (seq(TWO, "a+", "b+", TWO), True), (seq("a+", TWO, ONE), False),
                                  (seq("a+", "b+", TWO, THREE, "a-"), False), (seq("a+", ONE, TWO, "a-"), False),
                                  (seq("a+", ONE, "b+", TWO, "a-"), True), (seq(ONE, "a+", TWO), True)):
            self.assertEqual(self.both(process), expected, process)

    def test_branches_and_choices(self):
        for make in (par, choice):
            for part, expected in (("a+", True), (LOOP, True), (ONE, True), (TWO, False), (THREE, False),
                                   (seq(TWO, "a+"), False), (seq("a+", TWO), False), (seq("a+", TWO, "b+"), True),
                                   (seq(ONE, "a+"), True), (seq(ONE, "a+", TWO), False), (seq(TWO, "a+", ONE), False),
                                   (seq("a+", ONE), True), (seq(ONE, "a+", ONE), True)):
                for process in (make(part, "c+"), make("c+", part), make("c+", part, "c-"), make(part, part)):
                    self.assertEqual(self.both(process), expected, process)

    def test_closed_loops(self):
        for process, expected in ((edge("a+"), True), (LOOP, True), (ONE, True), (TWO, False), (THREE, False),
                                  (seq(TWO, "a+"), True), (seq("a+", TWO), True), (seq("a+", TWO, "b+"), True),
                                  (seq(TWO, "a+", TWO), False), (seq(TWO, "a+", THREE), False),
                                  (seq(TWO, "a+", ONE), False), (seq(ONE, "a+", TWO), False),
                                  (seq(ONE, "a+", ONE), True), (seq(ONE, "a+"), True), (seq("a+", ONE), True)):
            self.assertEqual(is_closed(process), expected, process)
            if is_connectable(process) != expected:
                self.assertTrue(is_connectable(process) and not expected)

    def test_a_closed_loop_is_connectable(self):
        for process in (seq("a+", seq(TWO, TWO)[1][0], ONE, "b+"), seq("a+", TWO, TWO, "b+"),
                        seq("a+", par(TWO, "c+"), "b+"), choice(seq("a+", TWO), "b+")):
            self.assertFalse(is_connectable(process))
            self.assertFalse(is_closed(process))


class Refused(unittest.TestCase):
    def test_the_first_loop_is_told(self):
        wrong = seq(TWO, "a+", TWO)
        self.assertIsNone(refused_loop(LOOP))
        self.assertEqual(refused_loop(TWO), 0)
        self.assertEqual(refused_loop(wrong), 0)
        self.assertEqual(refused_loop(LOOP, wrong), 1)
        self.assertEqual(refused_loop(LOOP, ONE, LOOP, wrong), 3)
        self.assertEqual(refused_loop(LOOP, wrong, TWO), 1)
        self.assertEqual(refused_loop(wrong, wrong), 0)
        self.assertEqual(refused_loop(LOOP, seq("a+", par(TWO, "c+"), "b+")), 1)

    def test_transitions(self):
        inner = choice(*["a+"] * 8)
        process = choice(*[inner] * 8)
        spec = translate(Program(SIGNALS[:1], "0", [process]))
        self.assertEqual((len(spec.net), spec.net.place_count), (64, 1))
        with self.assertRaises(InvalidNet):
            translate(Program(SIGNALS[:1], "0", [process, edge("a+")]))
        with self.assertRaises(InvalidNet):
            translate(Program(SIGNALS[:1], "0", [choice(*[inner] * 7, choice(*["a+"] * 7, choice("a+", "a+")))]))
        with self.assertRaises(InvalidNet):
            translate(Program(SIGNALS[:1], "0", [choice(process, process)]))

    def test_places(self):
        """Branches of one edge each need two places for one transition."""
        wide = seq("a+", par(*["b+"] * 8), "a-", par(*["b+"] * 8))
        spec = translate(Program(SIGNALS[:2], "00", [wide, seq(*["a+"] * 8), seq(*["a+"] * 8)]))
        self.assertEqual(spec.net.place_count, 48)
        rest = [seq("a+", par(*["b+"] * 7), "a-")]
        spec = translate(Program(SIGNALS[:2], "00", [wide, seq(*["a+"] * 8), seq(*["a+"] * 8), *rest]))
        self.assertEqual(spec.net.place_count, 48 + 15)
        for last, count in ((seq("a+", par(*["b+"] * 7), "a-", "a+"), 64), (seq("a+", par(*["b+"] * 8), "a-"), 65)):
            program = Program(SIGNALS[:2], "00", [wide, seq(*["a+"] * 8), seq(*["a+"] * 8), last])
            if count > 64:
                with self.assertRaises(InvalidNet):
                    translate(program)
            else:
                self.assertEqual(translate(program).net.place_count, count)
                self.assertLess(len(translate(program).net), 64)

    def test_closed_is_asked_first(self):
        huge = choice(*[choice(*["a+"] * 8)] * 8)
        for loops, told in (([huge, huge, TWO], 2), ([TWO, huge, huge], 0), ([huge, seq(TWO, ONE), huge, TWO], 1)):
            self.assertEqual(refused_loop(*loops), told)


class Translations(unittest.TestCase):
    def test_an_edge(self):
        self.assertEqual(net_lines(edge("a+")), ["places 1 0", "a+ 0 to 0"])

    def test_sequences(self):
        self.assertEqual(net_lines(seq("a+", "b+")), ["places 2 0", "a+ 0 to 1", "b+ 1 to 0"])
        self.assertEqual(net_lines(seq("a+", "a+", "b+")), ["places 3 0", "a+ 0 to 1", "a+/2 1 to 2", "b+ 2 to 0"])

    def test_a_choice(self):
        self.assertEqual(net_lines(choice("a+", "b+", "a+")), ["places 1 0", "a+ 0 to 0", "b+ 0 to 0", "a+/2 0 to 0"])

    def test_branches_in_a_sequence(self):
        self.assertEqual(net_lines(seq("a+", par("b+", "c+"), "a-")),
                         ["places 5 0", "a+ 0 to 1 2", "b+ 1 to 3", "c+ 2 to 4", "a- 3 4 to 0"])
        self.assertEqual(net_lines(seq("a+", par("b+", "c+"), "a-", par("b-", "c-", "d+"), "d-")),
                         ["places 11 0", "a+ 0 to 1 2", "b+ 1 to 3", "c+ 2 to 4", "a- 3 4 to 5 6 7", "b- 5 to 8",
                          "c- 6 to 9", "d+ 7 to 10", "d- 8 9 10 to 0"])

    def test_open_widths_at_the_ends(self):
        # Open at the back, at the front, and at both ends.
        self.assertEqual(net_lines(seq(par("a+", "b+"), "c+")),
                         ["places 4 0 1", "a+ 0 to 2", "b+ 1 to 3", "c+ 2 3 to 0 1"])
        self.assertEqual(net_lines(seq("c+", par("a+", "b+", "d+"))),
                         ["places 6 0 1 2", "c+ 0 1 2 to 3 4 5", "a+ 3 to 0", "b+ 4 to 1", "d+ 5 to 2"])
        self.assertEqual(net_lines(seq("c+", choice("a+", "b+"))), ["places 2 0", "c+ 0 to 1", "a+ 1 to 0", "b+ 1 to 0"])
        self.assertEqual(net_lines(seq(choice("a+", "b+"), "c+")), ["places 2 0", "a+ 0 to 1", "b+ 0 to 1", "c+ 1 to 0"])
        self.assertEqual(net_lines(seq("a+", "c+")), ["places 2 0", "a+ 0 to 1", "c+ 1 to 0"])

    def test_a_choice_in_a_sequence(self):
        self.assertEqual(net_lines(seq("a+", choice("b+", "c+"), "a-")),
                         ["places 3 0", "a+ 0 to 1", "b+ 1 to 2", "c+ 1 to 2", "a- 2 to 0"])
        self.assertEqual(net_lines(seq(choice("a+", "b+"), choice("b+", "c+"))),
                         ["places 2 0", "a+ 0 to 1", "b+ 0 to 1", "b+/2 1 to 0", "c+ 1 to 0"])

    def test_in_a_choice(self):
        self.assertEqual(net_lines(choice(seq("a+", "b+"), "c+")),
                         ["places 2 0", "a+ 0 to 1", "b+ 1 to 0", "c+ 0 to 0"])
        self.assertEqual(net_lines(choice("c+", choice("a+", "b+"))),
                         ["places 1 0", "c+ 0 to 0", "a+ 0 to 0", "b+ 0 to 0"])
        self.assertEqual(net_lines(choice("d+", seq("a+", par("b+", "c+"), "a-"))),
                         ["places 5 0", "d+ 0 to 0", "a+ 0 to 1 2", "b+ 1 to 3", "c+ 2 to 4", "a- 3 4 to 0"])
        self.assertEqual(net_lines(choice(seq("a+", choice("b+", "c+")), "d+")),
                         ["places 2 0", "a+ 0 to 1", "b+ 1 to 0", "c+ 1 to 0", "d+ 0 to 0"])

    def test_in_branches(self):
        self.assertEqual(net_lines(seq("a+", par(seq("b+", "b-"), choice("c+", "d+")), "a-")),
                         ["places 6 0", "a+ 0 to 1 2", "b+ 1 to 5", "b- 5 to 3", "c+ 2 to 4", "d+ 2 to 4",
                          "a- 3 4 to 0"])
        self.assertEqual(net_lines(seq("a+", par("d+", seq("b+", par("c+", "c+"), "b-")), "a-")),
                         ["places 9 0", "a+ 0 to 1 2", "d+ 1 to 3", "b+ 2 to 5 6", "c+ 5 to 7", "c+/2 6 to 8",
                          "b- 7 8 to 4", "a- 3 4 to 0"])

    def test_places_are_made_before_what_leads_to_them(self):
        self.assertEqual(net_lines(seq("a+", choice(seq("b+", "b-"), "c+"), "a-")),
                         ["places 4 0", "a+ 0 to 1", "b+ 1 to 3", "b- 3 to 2", "c+ 1 to 2", "a- 2 to 0"])

    def test_loops_one_after_another(self):
        self.assertEqual(net_lines(seq("a+", "a-"), seq(par("b+", "c+"), "b-"), edge("d+")),
                         ["places 7 0 2 3 6", "a+ 0 to 1", "a- 1 to 0", "b+ 2 to 4", "c+ 3 to 5", "b- 4 5 to 2 3",
                          "d+ 6 to 6"])

    def test_signals_and_start(self):
        program = Program(SIGNALS[:3], "101", [edge("b-")])
        spec = translate(program)
        self.assertEqual((spec.signals, spec.start, spec.edges), (tuple(SIGNALS[:3]), "101", ((1, 0),)))

    def test_depth_12(self):
        process = edge("a+")
        for _ in range(5):
            process = seq("b+", choice("a-", process))
        process = choice("d+", process)
        self.assertTrue(is_well_formed(process, 4))
        self.assertEqual(len(translate(Program(SIGNALS[:4], "0000", [process])).net), 12)


class Traces(unittest.TestCase):
    def compare(self, program, most):
        """Follow the traces of the program and of its translation side by side."""
        spec = translate(program)
        waiting = [({program.initial}, {spec.net.marked})]
        seen = []
        while waiting and len(seen) < most:
            states, markings = waiting.pop(0)
            after = {}
            for state in states:
                for one, left in program.steps(state):
                    after.setdefault(one, (set(), set()))[0].add(left)
            for marking in markings:
                for transition in enabled_transitions(spec, marking):
                    preset, postset = spec.net.transitions[transition]
                    self.assertFalse((set(marking) - set(preset)) & set(postset))
                    after.setdefault(spec.edges[transition], (set(), set()))[1].add(fired(spec, marking, transition))
            for pair in after.values():
                self.assertTrue(pair[0] and pair[1])
                if pair not in seen:
                    seen.append(pair)
                    waiting.append(pair)
        return len(seen)

    def test_traces_of_translations(self):
        compared = 0
        for seed in range(150):
            program = random_program(seed, most_loops=3 if seed % 3 else 1)
            try:
                translate(program)
            except InvalidNet:
                continue
            compared += self.compare(program, 25) > 3
        self.assertGreater(compared, 60)

    def test_some_programs(self):
        for loops in ([seq(par("a+", "b+"), "c+", "c-")], [choice("a+", seq("a+", "a-"), seq("a+", "b+"))],
                      [seq("a+", par("b+", "b+"), "a-"), choice("a+", "b+")], [edge("a+"), edge("a+"), edge("b+")],
                      [seq("a+", par(choice("a+", seq("a+", "b+")), seq("a+", "c+")), "a-")]):
            self.assertGreater(self.compare(Program(SIGNALS[:4], "0000", loops), 100), 0)
