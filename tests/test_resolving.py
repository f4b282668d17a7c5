"""Points 42 and 43: weights of candidates, the best one, and resolving conflicts in rounds."""

import itertools
import unittest

from clockless.checks import check, conflicts, disabling, nondeterminism
from clockless.errors import CodeConflict, Refusal
from clockless.graphs import explore
from clockless.inserts import candidates, insert
from clockless.nets import Net
from clockless.resolving import best_candidate, resolve, weigh
from clockless.specs import Spec
from clockless.spectext import format_spec, parse_spec
from tests.samples import HANDSHAKE, Fault, machine, random_loop, reference_exploration, ring

TWO_PULSES = "a+ a- b+ b-"
THREE_PULSES = "a+ a- b+ b- c+ c-"
FIVE_PULSES = "a+ a- b+ b- c+ c- d+ d- e+ e-"

# Its first conflict is one of the last to go: (0, 6) is told apart in the first round.
NESTED = "a+ b+ b- c+ c- a- d+ d-"


def wide_spec():
    """960 states: two chains of inputs beside the two pulses."""
    transitions, edges, marked, first = [], [], [], 0
    for signal, length in ((0, 15), (1, 16)):
        marked.append(first)
        transitions += [((first + k,), (first + k + 1,)) for k in range(length - 1)]
        edges += [(signal, 1 - k % 2) for k in range(length - 1)]
        first += length
    transitions += [((first + k,), (first + (k + 1) % 4,)) for k in range(4)]
    edges += [(2, 1), (2, 0), (3, 1), (3, 0)]
    signals = [("x", "input"), ("y", "input"), ("a", "output"), ("b", "output")]
    return Spec(Net(first + 4, transitions, (*marked, first)), signals, edges, "0000")


def reference_weight(spec, candidate, limit):
    """The weight of a candidate, or None, straight from the words of points 22 to 24 and 42."""
    rise, fall, value = candidate
    grown = insert(spec, "new", rise=rise, fall=fall, value=value)
    try:
        states, _, arcs = reference_exploration(grown, limit)
    except Fault:
        return None
    edges = [[(grown.edges[transition], after) for transition, after in arcs[state]] for state in range(len(states))]
    driven = {signal for signal, (_, kind) in enumerate(grown.signals) if kind != "input"}
    for own in edges:
        for (one, there), (other, after) in itertools.permutations(own, 2):
            if one == other and there != after:
                return None
            if one != other and {one[0], other[0]} & driven and one not in [edge for edge, _ in edges[after]]:
                return None
    excited = [{signal for (signal, _), _ in own if signal in driven} for own in edges]
    return sum(states[one][1] == states[other][1] and excited[one] != excited[other]
               for one, other in itertools.combinations(range(len(states)), 2))


class Weigh(unittest.TestCase):
    def test_good_candidates(self):
        spec = ring(TWO_PULSES, kinds="oo")
        self.assertEqual({candidate: weigh(spec, candidate) for candidate in candidates(spec)
                          if weigh(spec, candidate) is not None}, {
            (0, 1, "0"): 1, (0, 2, "0"): 2, (0, 3, "0"): 1, (1, 0, "1"): 1, (1, 2, "0"): 1, (1, 3, "0"): 0,
            (2, 0, "1"): 2, (2, 1, "1"): 1, (2, 3, "0"): 1, (3, 0, "1"): 1, (3, 1, "1"): 0, (3, 2, "1"): 1,
        })

    def test_no_state_graph(self):
        # The signal would fall before it has risen.
        spec = ring(TWO_PULSES, kinds="oo")
        self.assertEqual(weigh(spec, (1, 3, "0")), 0)
        self.assertIsNone(weigh(spec, (1, 3, "1")))

    def test_above_the_limit(self):
        spec = ring(TWO_PULSES, kinds="oo")
        self.assertEqual(weigh(spec, (1, 3, "0"), limit=6), 0)
        self.assertIsNone(weigh(spec, (1, 3, "0"), limit=5))

    def test_without_a_limit(self):
        spec = wide_spec()
        self.assertIsNone(weigh(spec, (30, 32, "0")))
        self.assertIsNotNone(weigh(spec, (30, 32, "0"), limit=1440))
        self.assertIsNone(weigh(spec, (30, 32, "0"), limit=1439))

    def test_not_deterministic(self):
        # The input a leads to different states; nothing else is wrong.
        spec = machine(["000", "100", "100", "110", "111"], [(0, 1), (0, 2), (1, 3), (3, 4)], kinds="ioo")
        grown = explore(insert(spec, "s0", rise=2, fall=3, value="0"))
        self.assertEqual((nondeterminism(grown), disabling(grown)), ((0, 0, 1), None))
        self.assertIsNone(weigh(spec, (2, 3, "0")))
        single = machine(["000", "100", "110", "111"], [(0, 1), (1, 2), (2, 3)], kinds="ioo")
        self.assertEqual(weigh(single, (1, 2, "0")), 0)

    def test_not_persistent(self):
        # b is due in 0 and stays due after a, but not at once with a signal that rises before it.
        spec = parse_spec("\n".join(["signal a output 0", "signal b output 0", "signal c output 0", "places 7 0",
                                     "a+ 0 to 1", "b+ 0 to 2", "b+/2 1 to 3", "a+/2 2 to 4", "c+ 3 to 5"]))
        self.assertIsNone(check(explore(spec), coded=False))
        grown = explore(insert(spec, "s0", rise=2, fall=4, value="0"))
        self.assertEqual((nondeterminism(grown), disabling(grown)), (None, (0, 1, 0)))
        self.assertIsNone(weigh(spec, (2, 4, "0")))

    def test_no_room(self):
        spec = ring("a+ b+ c+ d+ e+ f+ g+ h+ a- b- c- d- e- f- g- h-", kinds="oooooooo")
        self.assertIsNone(weigh(spec, (1, 3, "0")))

    def test_against_the_words_of_the_document(self):
        found = {}
        for seed in range(60):
            spec = random_loop(seed)
            weights = {}
            for candidate in candidates(spec):
                expected = reference_weight(spec, candidate, 60)
                self.assertEqual(weigh(spec, candidate, limit=60), expected)
                weights[candidate] = expected
                found[expected is None] = found.get(expected is None, 0) + 1
            best = min([(value, candidate) for candidate, value in weights.items() if value is not None], default=None)
            self.assertEqual(best_candidate(spec, limit=60), best)
        self.assertTrue(min(found.values()) > 300, found)


class Best(unittest.TestCase):
    def test_the_smallest_weight(self):
        self.assertEqual(best_candidate(ring(TWO_PULSES, kinds="oo")), (0, (1, 3, "0")))
        self.assertEqual(best_candidate(ring("a+ b+ b- a- c+ c-", kinds="ioo")), (0, (2, 5, "0")))

    def test_of_several_the_smallest_triple(self):
        spec = ring("a+ b+ a- b- c+ c-", kinds="ioo")
        self.assertEqual([candidate for candidate in candidates(spec) if weigh(spec, candidate) == 0],
                         [(1, 5, "0"), (3, 5, "0"), (5, 1, "1"), (5, 3, "1")])
        self.assertEqual(best_candidate(spec), (0, (1, 5, "0")))
        spec = ring(THREE_PULSES, kinds="ooo")
        self.assertEqual([candidate for candidate in candidates(spec) if weigh(spec, candidate) in (0, 1)],
                         [(1, 3, "0"), (1, 5, "0"), (3, 1, "1"), (3, 5, "0"), (5, 1, "1"), (5, 3, "1")])
        self.assertEqual(best_candidate(spec), (1, (1, 3, "0")))

    def test_start_values_decide_last(self):
        # Neither transition ever fires, so all candidates have the same weight.
        spec = parse_spec("signal a output 0\nsignal b output 0\nplaces 2\nb+ 1 to\na+ 0 to")
        self.assertEqual([weigh(spec, candidate) for candidate in candidates(spec)], [0, 0, 0, 0])
        self.assertEqual(best_candidate(spec), (0, (0, 1, "0")))

    def test_no_good_candidate(self):
        self.assertIsNone(best_candidate(ring("a+ b+ b- a-", kinds="ii")))
        self.assertIsNone(best_candidate(ring("a+ b+ a- b-", kinds="ii")))
        self.assertIsNone(best_candidate(ring(TWO_PULSES, kinds="oo"), limit=5))
        self.assertIsNotNone(best_candidate(ring(TWO_PULSES, kinds="oo"), limit=6))

    def test_no_room(self):
        self.assertIsNone(best_candidate(ring("a+ b+ c+ d+ e+ f+ g+ h+ a- b- c- d- e- f- g- h-", kinds="oooooooo")))

    def test_without_a_limit(self):
        self.assertIsNone(best_candidate(wide_spec()))
        self.assertIsNotNone(best_candidate(wide_spec(), limit=1440))


class Resolve(unittest.TestCase):
    def conflict(self, spec, **options):
        with self.assertRaises(CodeConflict) as caught:
            resolve(spec, **options)
        return (caught.exception.first, caught.exception.second)

    def names(self, spec, **options):
        return [name for name, _ in resolve(spec, **options).signals[len(spec):]]

    def test_no_conflict(self):
        for rounds in (0, 1, 2, 8):
            self.assertEqual(resolve(parse_spec(HANDSHAKE), rounds=rounds), parse_spec(HANDSHAKE))
        self.assertEqual(resolve(parse_spec(HANDSHAKE)), parse_spec(HANDSHAKE))
        self.assertEqual(resolve(parse_spec("places 0"), rounds=0), parse_spec("places 0"))

    def test_one_round(self):
        spec = ring(TWO_PULSES, kinds="oo")
        for rounds in (1, 2, 5):
            result = resolve(spec, rounds=rounds)
            self.assertEqual(result, insert(spec, "s0", rise=1, fall=3, value="0"))
        self.assertEqual(format_spec(result), "\n".join([
            "signal a output 0", "signal b output 0", "signal s0 inner 0", "places 6 0",
            "a+ 0 to 1", "a- 4 to 2", "b+ 2 to 3", "b- 5 to 0", "s0+ 1 to 4", "s0- 3 to 5",
        ]))
        self.assertEqual(spec, ring(TWO_PULSES, kinds="oo"))

    def test_two_rounds(self):
        spec = ring(THREE_PULSES, kinds="ooo")
        once = insert(spec, "s0", rise=1, fall=3, value="0")
        weight, (rise, fall, value) = best_candidate(once)
        self.assertEqual(weight, 0)
        self.assertEqual(resolve(spec), insert(once, "s1", rise=rise, fall=fall, value=value))
        self.assertEqual(resolve(spec, rounds=2), resolve(spec, rounds=3))
        self.assertEqual(conflicts(explore(resolve(spec))), [])

    def test_rounds_that_are_not_enough(self):
        self.assertEqual(self.conflict(ring(TWO_PULSES, kinds="oo"), rounds=0), ([], [0, 1]))
        self.assertEqual(self.conflict(ring(THREE_PULSES, kinds="ooo"), rounds=1), ([], [0, 1]))
        spec = ring(NESTED, kinds="iooo")
        graph = explore(spec)
        self.assertEqual(conflicts(graph)[0], (0, 6))
        self.assertEqual(self.conflict(spec, rounds=1), ([], [0, 1, 2, 3, 4, 5]))
        # The graph after the first round has another first conflict.
        left = explore(insert(spec, "s0", rise=2, fall=7, value="0"))
        [(first, second)] = conflicts(left)
        self.assertNotEqual((left.path(first), left.path(second)), ([], [0, 1, 2, 3, 4, 5]))
        self.assertEqual(self.names(spec, rounds=2), ["s0", "s1"])

    def test_no_candidate_makes_it_better(self):
        spec = ring("a+ a- b+ a+ a- b-", kinds="io")
        self.assertEqual(self.conflict(spec, rounds=8), ([], [0, 1]))
        # The best weight is the number of the conflicts, so that no round is made.
        spec = ring("a+ b+ b- b+ b- a-", kinds="io")
        self.assertEqual((len(conflicts(explore(spec))), best_candidate(spec)), (2, (2, (1, 4, "0"))))
        self.assertEqual(self.conflict(spec, rounds=8), ([0], [0, 1, 2, 3, 4]))

    def test_without_rounds(self):
        spec = ring(FIVE_PULSES, kinds="ooooo")
        self.assertEqual(self.names(spec, rounds=3), ["s0", "s1", "s2"])
        self.assertEqual(self.conflict(spec, rounds=2), ([], [0, 1]))
        self.assertEqual(self.conflict(spec), ([], [0, 1]))

    def test_without_a_limit(self):
        spec = wide_spec()
        first, second = conflicts(explore(spec))[0]
        expected = (explore(spec).path(first), explore(spec).path(second))
        self.assertEqual(self.conflict(spec), expected)
        self.assertEqual(self.conflict(spec, limit=1439), expected)
        self.assertEqual(self.names(spec, limit=1440), ["s0"])

    def test_taken_names(self):
        pulses = ring(TWO_PULSES, kinds="oo")
        for taken, expected in ((["s0", "b"], "s1"), (["s0", "s1"], "s2"), (["s1", "b"], "s0")):
            signals = [(name, "output") for name in taken]
            self.assertEqual(self.names(Spec(pulses.net, signals, pulses.edges, "00")), [expected])
        three = ring(THREE_PULSES, kinds="ooo")
        signals = [("s1", "output"), ("b", "output"), ("s2", "output")]
        self.assertEqual(self.names(Spec(three.net, signals, three.edges, "000")), ["s0", "s3"])

    def test_each_round_takes_the_best_candidate(self):
        ends = {}
        for seed in range(60):
            spec = random_loop(seed)
            expected, rounds = self.reference(spec, 3)
            ends[rounds if expected else None] = True
            if expected is None:
                first, second = conflicts(explore(spec))[0]
                self.assertEqual(self.conflict(spec, rounds=3), (explore(spec).path(first), explore(spec).path(second)))
            else:
                self.assertEqual(resolve(spec, rounds=3), expected)
        self.assertTrue({None, 0, 1, 2} <= set(ends), ends)

    def reference(self, spec, most):
        """The resolved specification, or None, and the number of rounds that were made."""
        rounds, left = 0, reference_conflicts(spec)
        while left and rounds < most:
            weights = [(reference_weight(spec, candidate, 1000), candidate) for candidate in candidates(spec)]
            weights = [pair for pair in weights if pair[0] is not None]
            if not weights or min(weights)[0] >= left:
                return None, rounds
            left, (rise, fall, value) = min(weights)
            spec = insert(spec, f"s{rounds}", rise=rise, fall=fall, value=value)
            rounds += 1
        return (None if left else spec), rounds


def reference_conflicts(spec):
    return len(conflicts(explore(spec)))
