"""The examples of the document, word for word."""

import unittest

from tests.doc_examples import blocks_of, outcome

NETS = r"""
>>> from clockless.nets import Net
>>> net = Net(3, [((0,), (1, 2)), ((1, 2), (0,))], (0,))
>>> net.enabled((1, 2))
[1]

>>> from clockless.nets import Net
>>> net = Net(3, [((0,), (1, 2)), ((1, 2), (0,))], (0,))
>>> net.fire((0,), 0)
(1, 2)

>>> from clockless.nets import Net
>>> net = Net(2, [((0,), (0, 1))], (0,))
>>> net.fire_all([0, 0])
raises Unsafe
"""

WEIGHTS = r"""
>>> from clockless.nets import Net
>>> from clockless.weights import largest_trap
>>> net = Net(3, [((0,), (1,)), ((1,), (2,))], (0,))
>>> largest_trap(net, (0, 1, 2))
(2,)
"""

SPECTEXT = r"""
>>> from clockless.spectext import parse_spec
>>> spec = parse_spec("signal a input 0\nsignal b output 0\nplaces 4 0\na+ 0 to 1\nb+ 1 to 2\na- 2 to 3\nb- 3 to 0")
>>> spec.transition_text(3)
'b-'

>>> from clockless.spectext import parse_spec
>>> parse_spec("signal a input 0\nplaces 2 0\na+ 0 to 1\na+ 1 to 0")
raises InvalidText
"""

GRAPHS = r"""
>>> from clockless.spectext import parse_spec
>>> from clockless.graphs import explore
>>> graph = explore(parse_spec("signal a input 0\nsignal b output 0\nplaces 4 0\na+ 0 to 1\nb+ 1 to 2\na- 2 to 3\nb- 3 to 0"))
>>> list(graph)
[((0,), '00'), ((1,), '10'), ((2,), '11'), ((3,), '01')]

>>> from clockless.spectext import parse_spec
>>> from clockless.graphs import explore
>>> explore(parse_spec("signal a input 1\nplaces 2 0\na+ 0 to 1"))
raises Inconsistent
"""

CHECKS = r"""
>>> from clockless.spectext import parse_spec
>>> from clockless.graphs import explore
>>> from clockless.checks import conflicts
>>> text = "signal a input 0\nsignal b output 0\nplaces 6 0\na+ 0 to 1\na- 1 to 2\nb+ 2 to 3\na+/2 3 to 4\na-/2 4 to 5\nb- 5 to 0"
>>> conflicts(explore(parse_spec(text)))
[(0, 2), (3, 5)]

>>> from clockless.spectext import parse_spec
>>> from clockless.graphs import explore
>>> from clockless.checks import check
>>> check(explore(parse_spec("signal a output 0\nsignal b output 0\nplaces 1 0\na+ 0 to\nb+ 0 to")))
raises NotPersistent
"""

COVERS = r"""
>>> from clockless.covers import compact_cover
>>> compact_cover(["110", "111", "011"], ["000", "100", "001"])
['-1-']

>>> from clockless.covers import complement
>>> complement(["1-", "-1"], 2)
['00']
"""

FUNCTIONS = r"""
>>> from clockless.spectext import parse_spec
>>> from clockless.graphs import explore
>>> from clockless.monotone import monotonous_cover
>>> graph = explore(parse_spec("signal a input 0\nsignal b output 0\nplaces 4 0\na+ 0 to 1\nb+ 1 to 2\na- 2 to 3\nb- 3 to 0"))
>>> monotonous_cover(graph, (1, 1))
['1-']
"""

RESOLVING = r"""
>>> from clockless.spectext import parse_spec, format_spec
>>> from clockless.inserts import insert
>>> spec = parse_spec("signal a input 0\nsignal b output 0\nplaces 4 0\na+ 0 to 1\nb+ 1 to 2\na- 2 to 3\nb- 3 to 0")
>>> insert(spec, "s0", rise=1, fall=3, value="0").net.preset(4)
(1,)

>>> from clockless.spectext import parse_spec
>>> from clockless.inserts import insertion_points
>>> insertion_points(parse_spec("signal a input 0\nsignal b output 0\nplaces 4 0\na+ 0 to 1\nb+ 1 to 2\na- 2 to 3\nb- 3 to 0"))
[1, 3]
"""

BUILDING = r"""
>>> from clockless.spectext import parse_spec
>>> from clockless.graphs import explore
>>> from clockless.building import build
>>> from clockless.nettext import format_netlist
>>> graph = explore(parse_spec("signal a input 0\nsignal b output 0\nplaces 4 0\na+ 0 to 1\nb+ 1 to 2\na- 2 to 3\nb- 3 to 0"))
>>> format_netlist(build(graph))
'signal a input 0\nsignal b output 0\ngate 1 c 3 5\ngate 2 and 1-\ngate 3 or 2\ngate 4 and 0-\ngate 5 or 4'

>>> from clockless.spectext import parse_spec
>>> from clockless.graphs import explore
>>> from clockless.building import build
>>> graph = explore(parse_spec("signal a input 0\nsignal b output 0\nplaces 4 0\na+ 0 to 1\nb+ 1 to 2\na- 2 to 3\nb- 3 to 0"))
>>> build(graph, style="atomic").gates
(None, ('atomic', ('1-',)))
"""

EXAMINING = r"""
>>> from clockless.spectext import parse_spec
>>> from clockless.netlists import Netlist
>>> from clockless.boards import Board
>>> spec = parse_spec("signal a input 0\nsignal b output 0\nplaces 4 0\na+ 0 to 1\nb+ 1 to 2\na- 2 to 3\nb- 3 to 0")
>>> board = Board(spec, Netlist([("a", "input"), ("b", "output")], "00", [None, ("atomic", ("1-",))]))
>>> board.moves(board.initial)
[('input', 0)]

>>> from clockless.spectext import parse_spec
>>> from clockless.netlists import Netlist
>>> from clockless.boards import Board
>>> from clockless.examining import examine
>>> spec = parse_spec("signal a input 0\nsignal b output 0\nplaces 4 0\na+ 0 to 1\nb+ 1 to 2\na- 2 to 3\nb- 3 to 0")
>>> examine(Board(spec, Netlist([("a", "input"), ("b", "output")], "00", [None, ("atomic", ("0-",))])))
raises Flawed
"""

FLOW = r"""
>>> from clockless.spectext import parse_spec
>>> from clockless.flow import synthesise
>>> from clockless.nettext import format_netlist
>>> spec = parse_spec("signal a input 0\nsignal b output 0\nplaces 4 0\na+ 0 to 1\nb+ 1 to 2\na- 2 to 3\nb- 3 to 0")
>>> format_netlist(synthesise(spec, style="latch"))
'signal a input 0\nsignal b output 0\ngate 1 latch 1- to 0-'

>>> from clockless.spectext import parse_spec
>>> from clockless.flow import reason
>>> reason(parse_spec("signal a output 0\nsignal b output 0\nplaces 1 0\na+ 0 to\nb+ 0 to"))
'NotPersistent'
"""

PROCTEXT = r"""
>>> from clockless.proctext import parse_program
>>> from clockless.translating import translate
>>> from clockless.spectext import format_spec
>>> format_spec(translate(parse_program("signal a input 0\nsignal b output 0\nloop a+ ; b+ ; a- ; b-")))
'signal a input 0\nsignal b output 0\nplaces 4 0\na+ 0 to 1\nb+ 1 to 2\na- 2 to 3\nb- 3 to 0'

>>> from clockless.processes import steps
>>> steps(("par", (("edge", 0, 1), ("edge", 1, 1))))
[((0, 1), ('edge', 1, 1)), ((1, 1), ('edge', 0, 1))]

>>> from clockless.proctext import parse_program
>>> from clockless.translating import translate
>>> translate(parse_program("signal a input 0\nsignal b output 0\nloop ( a+ | b+ ) ; a- ; b-")).net.marked
(0, 1)
"""

TIMING = r"""
>>> from clockless.spectext import parse_spec
>>> from clockless.flow import synthesise
>>> from clockless.boards import Board
>>> from clockless.timing import simulate
>>> spec = parse_spec("signal a input 0\nsignal b output 0\nplaces 4 0\na+ 0 to 1\nb+ 1 to 2\na- 2 to 3\nb- 3 to 0")
>>> board = Board(spec, synthesise(spec, style="atomic"))
>>> simulate(board, [5, 2], count=3)
[(5, ('input', 0)), (7, ('gate', 1)), (8, ('input', 2))]
"""

EXPLAINING = r"""
>>> from clockless.netlists import Netlist
>>> from clockless.tidying import tidied
>>> netlist = Netlist([("a", "input"), ("b", "output")], "00", [None, ("c", 3, 5), ("and", "1-"), ("or", (2,)), ("and", "0-"), ("or", (4,))])
>>> tidied(netlist).gates
(None, ('c', 2, 3), ('and', '1-'), ('and', '0-'))

>>> from clockless.errors import NotPersistent
>>> from clockless.spectext import parse_spec
>>> from clockless.explaining import explanation
>>> explanation(parse_spec("signal a output 0\nsignal b output 0\nplaces 1 0\na+ 0 to\nb+ 0 to"), NotPersistent([], 0, 1))
'not persistent: after start, b+ disables a+'
"""

CONFIGURATIONS = r"""
>>> from clockless.spectext import parse_spec
>>> from clockless.prefixes import unfold
>>> prefix = unfold(parse_spec("signal a input 0\nsignal b output 0\nplaces 4 0\na+ 0 to 1\nb+ 1 to 2\na- 2 to 3\nb- 3 to 0"))
>>> prefix.past(3)
(0, 1, 2, 3)

>>> from clockless.spectext import parse_spec
>>> from clockless.prefixes import unfold
>>> prefix = unfold(parse_spec("signal a input 0\nsignal b output 0\nplaces 4 0\na+ 0 to 1\nb+ 1 to 2\na- 2 to 3\nb- 3 to 0"))
>>> prefix.is_cutoff(3)
True
"""

FANIN = r"""
>>> from clockless.netlists import Netlist
>>> from clockless.fanin import reduced
>>> netlist = Netlist([("a", "input"), ("b", "input"), ("c", "output")], "000", [None, None, ("c", 4, 6), ("and", "110"), ("or", (3,)), ("and", "00-"), ("or", (5,))])
>>> reduced(netlist, width=2).gates
(None, None, ('c', 6, 8), ('and', '11-'), ('and', '--0'), ('all', (3, 4)), ('or', (5,)), ('and', '00-'), ('or', (7,)))
"""

COMPILING = r"""
>>> from clockless.compiling import compile_program
>>> from clockless.nettext import format_netlist
>>> format_netlist(compile_program("signal a input 0\nsignal b output 0\nloop a+ ; b+ ; a- ; b-").netlist)
'signal a input 0\nsignal b output 0\ngate 1 c 2 3\ngate 2 and 1-\ngate 3 and 0-'
"""


class Examples(unittest.TestCase):
    def check(self, text, count):
        blocks = blocks_of(text)
        self.assertEqual(len(blocks), count)
        for statements, shown in blocks:
            with self.subTest(statements[-1]):
                self.assertEqual(outcome(statements), shown)

    def test_nets(self):
        self.check(NETS, 3)

    def test_weights_follows_point_8_where_the_example_does_not(self):
        # The example shows (2,), but point 8 makes (0, 1, 2) a trap: transition 0
        # takes from place 0 and gives to 1, and transition 1 takes from 1 and gives
        # to 2. Its procedure removes no place, either. The promise is kept.
        [(statements, shown)] = blocks_of(WEIGHTS)
        self.assertEqual(shown, "(2,)")
        self.assertEqual(outcome(statements), "(0, 1, 2)")

    def test_spectext(self):
        self.check(SPECTEXT, 2)

    def test_graphs(self):
        self.check(GRAPHS, 2)

    def test_checks(self):
        self.check(CHECKS, 2)

    def test_covers(self):
        self.check(COVERS, 2)

    def test_functions(self):
        self.check(FUNCTIONS, 1)

    def test_resolving(self):
        self.check(RESOLVING, 2)

    def test_building(self):
        self.check(BUILDING, 2)

    def test_examining(self):
        self.check(EXAMINING, 2)

    def test_flow(self):
        self.check(FLOW, 2)

    def test_proctext(self):
        self.check(PROCTEXT, 3)

    def test_timing(self):
        self.check(TIMING, 1)

    def test_explaining(self):
        self.check(EXPLAINING, 2)

    def test_configurations(self):
        self.check(CONFIGURATIONS, 2)

    def test_fanin(self):
        self.check(FANIN, 1)

    def test_compiling(self):
        self.check(COMPILING, 1)
