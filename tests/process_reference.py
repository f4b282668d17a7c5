"""Processes and programs that several tests use, and their traces straight from the words of points 59 to 61."""

import random

from clockless.processes import Program

KINDS = ("seq", "par", "choice")
SIGNALS = [("a", "input"), ("b", "output"), ("c", "input"), ("d", "inner"), ("e", "output"), ("f", "input")]


def edge(text):
    """The edge of a text as "a+"; the signals are a, b, c and so on."""
    return ("edge", "abcdefgh".index(text[0]), int(text[1] == "+"))


def seq(*parts):
    return ("seq", tuple(edge(part) if isinstance(part, str) else part for part in parts))


def par(*parts):
    return ("par", tuple(edge(part) if isinstance(part, str) else part for part in parts))


def choice(*parts):
    return ("choice", tuple(edge(part) if isinstance(part, str) else part for part in parts))


def nested(levels, *, inner=("edge", 0, 1)):
    """A well-formed process, if it is not too deep, with so many levels around and with the inner one."""
    process = inner
    for level in range(levels - 1):
        process = (("par", "seq", "choice")[level % 3], (("edge", 0, 0), process))
    return process


def random_process(chance, levels, *, most=3, barred=()):
    """A well-formed process of at most so many levels and parts, with edges of four signals."""
    kinds = [kind for kind in KINDS if kind not in barred]
    if levels <= 1 or chance.random() < 0.3:
        return ("edge", chance.randrange(4), chance.randrange(2))
    kind = chance.choice(kinds)
    barred = ("seq",) if kind == "seq" else ()
    count = chance.randint(2, most)
    return (kind, tuple(random_process(chance, levels - 1, most=most, barred=barred) for _ in range(count)))


def random_unit(chance, levels, *, barred=(), most=3):
    """A connectable process whose widths at the front and at the back fit 1."""
    kinds = [kind for kind in ("edge", "choice", "seq") if kind not in barred]
    kind = "edge" if levels <= 1 else chance.choice(kinds)
    if kind == "edge":
        return ("edge", chance.randrange(4), chance.randrange(2))
    if kind == "choice":
        return ("choice", tuple(random_unit(chance, levels - 1, most=most) for _ in range(chance.randint(2, most))))
    parts = [random_unit(chance, levels - 1, barred=("seq",), most=most)]
    while len(parts) < 2 or (len(parts) < 6 and chance.random() < 0.5):
        if parts[-1][0] == "edge" and len(parts) < 6 and chance.random() < 0.4:
            branches = [random_unit(chance, levels - 1, most=most) for _ in range(chance.randint(2, most))]
            parts += [("par", tuple(branches)), ("edge", chance.randrange(4), chance.randrange(2))]
        else:
            parts.append(random_unit(chance, levels - 1, barred=("seq",), most=most))
    return ("seq", tuple(parts))


def random_closed(chance, levels):
    """A closed loop; some of them begin or end with branches."""
    process = random_unit(chance, levels)
    if chance.random() < 0.7:
        return process
    branches = ("par", tuple(random_unit(chance, levels - 1) for _ in range(chance.randint(2, 3))))
    middle = [("edge", chance.randrange(4), chance.randrange(2)) for _ in range(chance.randint(1, 2))]
    return ("seq", chance.choice([(branches, *middle), (*middle, branches), (middle[0], branches, middle[-1])]))


def random_program(seed, *, most_loops=2, levels=4):
    """A translatable program that the seed decides."""
    chance = random.Random(seed)
    loops = [random_closed(chance, chance.randint(1, levels)) for _ in range(chance.randint(1, most_loops))]
    return Program(SIGNALS[:4], "0000", loops)


def runs(process):
    """The lists of edges of all complete runs of a process, each once."""
    if process[0] == "edge":
        return {(process[1:],)}
    languages = [runs(part) for part in process[1]]
    if process[0] == "choice":
        return set().union(*languages)
    join = (lambda one, other: {one + other}) if process[0] == "seq" else shuffles
    whole = {()}
    for language in languages:
        whole = {mixed for one in whole for other in language for mixed in join(one, other)}
    return whole


def shuffles(one, other):
    """All lists of edges in which both lists stand side by side."""
    if not one or not other:
        return {one + other}
    return ({(one[0], *rest) for rest in shuffles(one[1:], other)}
            | {(other[0], *rest) for rest in shuffles(one, other[1:])})


def beginnings(process):
    """What complete runs of a process begin with."""
    return {run[:length] for run in runs(process) for length in range(len(run) + 1)}


def runs_by_steps(process, ask):
    """The lists of edges of all complete runs, found by asking for steps."""
    if process is None:
        return {()}
    return {(one, *rest) for one, after in ask(process) for rest in runs_by_steps(after, ask)}


def flat(*parts):
    """A sequence whose parts that are sequences are taken apart."""
    taken = [one for part in parts for one in (part[1] if part[0] == "seq" else (part,))]
    return ("seq", tuple(taken)) if len(taken) > 1 else taken[0]


def pulse(signal, *between):
    """The signal rises, then something happens, then it falls."""
    return flat(("edge", signal, 1), *between, ("edge", signal, 0))


class CircuitProgram:
    """Makes a program whose signals come back to their start values; many of these have circuits."""

    def __init__(self, seed):
        self.chance = random.Random(seed)
        self.kinds = []
        loops = [self.loop() for _ in range(self.chance.choice([1, 1, 1, 2]))]
        signals = [("abcdefgh"[k], kind) for k, kind in enumerate(self.kinds)]
        self.program = Program(signals, "0" * len(signals), loops)

    def signal(self, kind):
        self.kinds.append(kind)
        return len(self.kinds) - 1

    def loop(self):
        form = self.chance.choice(["answer", "choice", "branches", "body"])
        if form == "body":
            return self.body(2)
        ways = [self.answer() for _ in range(2 if form == "choice" and len(self.kinds) < 3 else 1)]
        if form == "branches" and len(self.kinds) < 4:
            one, two, go = self.signal("output"), self.signal("output"), self.signal("input")
            return seq(("edge", go, 1), ("par", (("edge", one, 1), ("edge", two, 1))), ("edge", go, 0),
                       ("par", (("edge", one, 0), ("edge", two, 0))))
        return ("choice", tuple(ways)) if len(ways) > 1 else ways[0]

    def answer(self):
        """An input that is answered by an output, perhaps with more between them."""
        go, done = self.signal("input"), self.signal("output")
        between = [self.body(1)] if len(self.kinds) < 5 and self.chance.random() < 0.5 else []
        return flat(("edge", go, 1), *between, ("edge", done, 1), ("edge", go, 0), ("edge", done, 0))

    def body(self, levels):
        """Something that the circuit begins."""
        ask = self.signal(self.chance.choice(["output", "output", "inner"]))
        form = self.chance.choice(["alone", "pair", "around", "beside"]) if levels else "pair"
        if form == "alone" or len(self.kinds) > 6:
            return pulse(ask)
        if form == "around" and len(self.kinds) < 6:
            return pulse(ask, self.body(levels - 1))
        if form == "beside" and len(self.kinds) < 5:
            return pulse(ask, ("par", (self.body(0), self.body(0))))
        reply = self.signal("input")
        return flat(("edge", ask, 1), ("edge", reply, 1), ("edge", ask, 0), ("edge", reply, 0))


def circuit_program(seed):
    """A program that the seed decides, with at most eight signals."""
    try:
        return CircuitProgram(seed).program
    except (IndexError, ValueError):
        return circuit_program(seed + 1000)
