"""Specifications of several kinds, and the designs of those that have circuits, made once for all tests."""

import functools

from clockless.errors import Refusal
from clockless.flow import design
from clockless.proctext import parse_program
from clockless.translating import translate
from tests.process_reference import circuit_program
from tests.samples import random_loop, random_machines, random_spec, ring

STYLES = ("atomic", "latch", "split")


def ways(names):
    """Each of several inputs makes the output a rise, and u makes it fall again."""
    lines = [f"signal {name} input 0" for name in names] + ["signal u input 0", "signal a output 0"]
    loop = " / ".join(f"{name}+ ; a+ ; u+ ; a- ; {name}- ; u-" for name in names)
    return translate(parse_program("\n".join([*lines, "loop " + loop])))


@functools.lru_cache(maxsize=None)
def specs():
    """Some dozens of specifications, with and without circuits."""
    found = [ways("xyz"), ways("wxyz"), ring("a+ a- b+ b- c+ c-", kinds="ooo"), ring("a+ b+ b- a- c+ c-", kinds="ioo")]
    for seed in range(26):
        found += [random_loop(seed), random_machines(seed), translate(circuit_program(seed)), random_spec(seed)]
    return found


@functools.lru_cache(maxsize=None)
def designs():
    """Pairs of a style and a design."""
    return [(style, made) for style in STYLES for spec in specs() for made in made_for(spec, style)]


def made_for(spec, style):
    """The design in a list that is empty if there is none."""
    try:
        return [design(spec, style=style)]
    except Refusal:
        return []
