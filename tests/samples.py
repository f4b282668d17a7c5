"""Nets and specifications that several tests use."""

import itertools
import random

from clockless.nets import Net
from clockless.specs import Spec

HANDSHAKE = "\n".join([
    "signal a input 0",
    "signal b output 0",
    "places 4 0",
    "a+ 0 to 1",
    "b+ 1 to 2",
    "a- 2 to 3",
    "b- 3 to 0",
])


def ascending_sets(count):
    """All ascending tuples of numbers below the count."""
    return [chosen for size in range(count + 1) for chosen in itertools.combinations(range(count), size)]


def some_places(chance, count, most):
    """An ascending tuple of at most so many places."""
    return tuple(sorted(chance.sample(range(count), chance.randint(0, min(most, count)))))


def random_net(seed, *, most_places=5, most_transitions=5):
    """A small net that the seed decides."""
    chance = random.Random(seed)
    count = chance.randint(1, most_places)
    transitions = []
    for _ in range(chance.randint(0, most_transitions)):
        preset = some_places(chance, count, 2)
        if preset:
            transitions.append((preset, some_places(chance, count, 2)))
    return Net(count, transitions, some_places(chance, count, 3))


def ring_net(count):
    """Transitions one after another in a ring, with one token."""
    return Net(count, [((k,), ((k + 1) % count,)) for k in range(count)], (0,))


def random_spec(seed):
    """A small specification that the seed decides; many of them have faults."""
    chance = random.Random(seed)
    net = random_net(seed, most_places=6, most_transitions=6)
    count = chance.randint(1, 3)
    signals = [(name, chance.choice(["input", "output", "inner"])) for name in ["a", "b", "c"][:count]]
    edges = [(chance.randrange(count), chance.randrange(2)) for _ in range(len(net))]
    return Spec(net, signals, edges, "".join(chance.choice("01") for _ in signals))


def chains_spec(lengths):
    """Independent chains of places, each with a signal that changes at each step."""
    transitions, edges, marked, first = [], [], [], 0
    for signal, length in enumerate(lengths):
        marked.append(first)
        for step in range(length - 1):
            transitions.append(((first + step,), (first + step + 1,)))
            edges.append((signal, 1 - step % 2))
        first += length
    signals = [(f"s{k}", "output") for k in range(len(lengths))]
    return Spec(Net(first, transitions, tuple(marked)), signals, edges, "0" * len(lengths))


def random_machines(seed):
    """A specification with a state graph: one or two machines of one token, side by side.

    Each place has a code, and transitions lead between places whose codes differ in one signal.
    """
    chance = random.Random(seed)
    transitions, edges, marked, signals, start = [], [], [], [], ""
    for _ in range(chance.randint(1, 2)):
        width, first = chance.randint(1, 3), 8 * len(marked)
        codes = [chance.randrange(2 ** width) for _ in range(chance.randint(2, 6))]
        for _ in range(chance.randint(4, 24)):
            one, other = chance.randrange(len(codes)), chance.randrange(len(codes))
            change = codes[one] ^ codes[other]
            if change in (1, 2, 4):
                signal = change.bit_length() - 1
                transitions.append(((first + one,), (first + other,)))
                edges.append((len(signals) + signal, codes[other] >> signal & 1))
        marked.append(first)
        start += "".join(str(codes[0] >> signal & 1) for signal in range(width))
        signals += [(f"s{len(marked)}{k}", chance.choice(["input", "output", "inner"])) for k in range(width)]
    return Spec(Net(8 * len(marked), transitions, tuple(marked)), signals, edges, start)


class Fault(Exception):
    """What the reference exploration found: the name of an error and its fields."""


def reference_exploration(spec, limit):
    """The states, paths and arcs of a state graph, straight from the words of points 16 to 19."""
    states = [(frozenset(spec.net.marked), spec.start)]
    paths = [[]]
    arcs = []
    while len(arcs) < len(states):
        marking, code = states[len(arcs)]
        path = paths[len(arcs)]
        arcs.append([])
        for transition, (preset, postset) in enumerate(spec.net.transitions):
            if not set(preset) <= marking:
                continue
            signal, value = spec.edges[transition]
            doubled = (marking - set(preset)) & set(postset)
            if doubled:
                raise Fault("Unsafe", {"sequence": path + [transition], "place": min(doubled)})
            if int(code[signal]) == value:
                raise Fault("Inconsistent", {"sequence": path + [transition]})
            values = list(code)
            values[signal] = str(value)
            after = ((marking - set(preset)) | set(postset), "".join(values))
            if after not in states:
                if len(states) == limit:
                    raise Fault("TooLarge", {"limit": limit})
                states.append(after)
                paths.append(path + [transition])
            arcs[-1].append((transition, states.index(after)))
    return [(tuple(sorted(marking)), code) for marking, code in states], paths, arcs


def machine(codes, arcs, *, kinds):
    """One token that moves along the arcs between places, each of which has a code.

    The numbers of the states are those of the places if the arcs discover them in their order.
    """
    edges = []
    for one, other in arcs:
        [signal] = [k for k in range(len(kinds)) if codes[one][k] != codes[other][k]]
        edges.append((signal, int(codes[other][signal])))
    long_kinds = {"i": "input", "o": "output", "n": "inner"}
    signals = [(name, long_kinds[kind]) for name, kind in zip("abcdefgh", kinds)]
    return Spec(Net(len(codes), [((one,), (other,)) for one, other in arcs], (0,)), signals, edges, codes[0])


def ring(text, *, kinds):
    """A specification that repeats the edges of a text in their order; each signal starts with 0."""
    words = text.split(" ")
    names = sorted({word[:-1] for word in words})
    codes = [[0] * len(names)]
    for word in words:
        code = list(codes[-1])
        code[names.index(word[:-1])] = int(word[-1] == "+")
        codes.append(code)
    assert codes.pop() == codes[0]
    texts = ["".join(str(value) for value in code) for code in codes]
    spec = machine(texts, [(k, (k + 1) % len(words)) for k in range(len(words))], kinds=kinds)
    return Spec(spec.net, [(name, kind) for name, (_, kind) in zip(names, spec.signals)], spec.edges, spec.start)


def random_steps(chance, count, length):
    """Steps of a loop: in each one some signals change side by side; at the end all are back."""
    code, steps = [0] * count, []
    for _ in range(length):
        chosen = chance.sample(range(count), chance.choice([1, 1, 2, 3][:count + 1]))
        steps.append([(signal, 1 - code[signal]) for signal in chosen])
        for signal in chosen:
            code[signal] = 1 - code[signal]
    back = [signal for signal in range(count) if code[signal]]
    while back:
        size = chance.randint(1, min(3, len(back)))
        steps.append([(signal, 0) for signal in back[:size]])
        back = back[size:]
    return steps


def loop_spec(steps, kinds):
    """A specification that repeats steps: each edge of a step waits for all edges of the step before."""
    transitions = [(index, edge) for index, step in enumerate(steps) for edge in step]
    places = [(one, other) for one, (index, _) in enumerate(transitions) for other, (then, _) in enumerate(transitions)
              if then == (index + 1) % len(steps)]
    arcs = [(tuple(k for k, (_, taker) in enumerate(places) if taker == transition),
             tuple(k for k, (giver, _) in enumerate(places) if giver == transition))
            for transition in range(len(transitions))]
    marked = tuple(k for k, (_, taker) in enumerate(places) if transitions[taker][0] == 0)
    signals = [(name, kind) for name, kind in zip("abcdefgh", kinds)]
    return Spec(Net(len(places), arcs, marked), signals, [edge for _, edge in transitions], "0" * len(kinds))


def random_loop(seed):
    """A loop whose signals change in steps, some of them side by side; many of these have conflicts."""
    chance = random.Random(seed)
    count = chance.randint(2, 4)
    kinds = [chance.choice(["input", "output", "output", "inner"]) for _ in range(count)]
    return loop_spec(random_steps(chance, count, chance.randint(2, 5)), kinds)
