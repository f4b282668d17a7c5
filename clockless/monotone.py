"""Monotonous cubes: they detect that a signal must change, and are harmless otherwise."""

from clockless.cubes import contains, hull, literal_count
from clockless.regions import phase, regions


def is_monotonous(graph, edge, region, cube):
    """Whether the cube is monotonous for the region of the edge."""
    entered = all([contains(cube, graph.code(state)) for state in region])
    return entered and _is_harmless(cube, _barred_codes(graph, edge, region), _settled_changes(graph, edge))


def least_monotonous(graph, edge, region):
    """The monotonous cube with the fewest literals, of several the least; None if there is none."""
    barred = _barred_codes(graph, edge, region)
    changes = _settled_changes(graph, edge)
    # A cube contains all codes of the region exactly if their hull is inside it.
    wider = _cubes_around(hull([graph.code(state) for state in region]))
    for _, cube in sorted([(literal_count(cube), cube) for cube in wider]):
        if _is_harmless(cube, barred, changes):
            return cube
    return None


def monotonous_cover(graph, edge):
    """The least monotonous cubes of the edge's regions; None if a region has none."""
    cover = [least_monotonous(graph, edge, region) for region in regions(graph, edge)]
    return None if None in cover else cover


def _phases_for(edge):
    """The phases in their order; for a falling edge each one under the name of its opposite."""
    return ("rising", "high", "falling", "low") if edge[1] == 1 else ("falling", "low", "rising", "high")


def _barred_codes(graph, edge, region):
    """The codes of the states in which the cube must be 0."""
    rising, _, falling, low = _phases_for(edge)
    codes = set()
    for state in range(len(graph)):
        present = phase(graph, state, edge[0])
        if present in (low, falling) or (present == rising and state not in region):
            codes.add(graph.code(state))
    return sorted(codes)


def _settled_changes(graph, edge):
    """The pairs of codes before and after the arcs along which a cube must not become 1."""
    rising, high, _, _ = _phases_for(edge)
    phases = [phase(graph, state, edge[0]) for state in range(len(graph))]
    changes = set()
    for state in range(len(graph)):
        if phases[state] in (rising, high):
            for _, target in graph.arcs(state):
                if phases[target] == high:
                    changes.add((graph.code(state), graph.code(target)))
    return sorted(changes)


def _is_harmless(cube, barred, changes):
    """Whether the cube avoids the barred codes, and becomes 1 along none of the changes."""
    if any([contains(cube, code) for code in barred]):
        return False
    return not any([contains(cube, after) and not contains(cube, before) for before, after in changes])


def _cubes_around(cube):
    """All cubes that the cube is inside."""
    cubes = [""]
    for literal in cube:
        characters = ("-",) if literal == "-" else ("-", literal)
        cubes = [start + character for start in cubes for character in characters]
    return cubes
