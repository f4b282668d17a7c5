"""Compiling programs into netlists, and following programs along traces."""

from clockless.flow import Design, design
from clockless.proctext import parse_program
from clockless.tidying import tidied
from clockless.translating import translate


def compile_program(text, *, style="split", rounds=2, limit=1000):
    """The design for the program with this text, with a tidied netlist."""
    made = design(translate(parse_program(text)), style=style, rounds=rounds, limit=limit)
    return Design(made.spec, made.refined, tidied(made.netlist))


def follow_program(program, trace):
    """The states of the program to which steps with this trace lead."""
    states = [program.initial]
    for edge in trace:
        states = _different([after for state in states for one, after in program.steps(state) if one == edge])
    return states


def _different(states):
    """The states without repetitions, in their order."""
    # States are nested too deeply for keys, so their written forms stand for them.
    found = {repr(state): state for state in states}
    return [found[text] for text in found]
