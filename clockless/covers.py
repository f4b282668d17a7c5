"""Covers: lists of cubes of one width."""

from clockless.cubes import contains, intersection, with_character


def cover_contains(cover, code):
    """Whether one of the cubes contains the code."""
    return any([contains(cube, code) for cube in cover])


def implements(cover, on, off):
    """Whether the cover contains every code of `on` and none of `off`."""
    return _contains_all(cover, on) and not any([cover_contains(cover, code) for code in off])


def expand(cube, off):
    """The prime cube that drops the literals from the left where `off` allows it."""
    for index in range(len(cube)):
        wider = with_character(cube, index, "-")
        if not _contains_some(wider, off):
            cube = wider
    return cube


def is_prime(cube, off):
    """Whether the cube avoids `off`, and would not without any one literal."""
    # Expanding drops the first literal that can be dropped, so it changes
    # nothing exactly if none can.
    return not _contains_some(cube, off) and expand(cube, off) == cube


def compact_cover(on, off):
    """A cover by prime cubes, none of which can be removed."""
    cover = []
    for code in sorted(on):
        if not cover_contains(cover, code):
            cover.append(expand(code, off))
    return _without_needless(cover, on)


def restriction(cover, cube):
    """The cubes that meet the cube, without the literals at its indexes."""
    return [_without_literals_of(own, cube) for own in cover if intersection(own, cube) is not None]


def complement(cover, width):
    """The cubes of the codes that the cover does not contain."""
    everything = "-" * width
    if len(cover) == 0:
        return [everything]
    if everything in cover:
        return []
    index = min([_first_literal(cube) for cube in cover])
    cubes = []
    for character in "01":
        half = with_character(everything, index, character)
        rest = complement(restriction(cover, half), width)
        cubes.extend([with_character(cube, index, character) for cube in rest])
    return cubes


def is_full(cover, width):
    """Whether the cover contains every code of the width."""
    return complement(cover, width) == []


def _contains_all(cover, codes):
    return all([cover_contains(cover, code) for code in codes])


def _contains_some(cube, codes):
    return any([contains(cube, code) for code in codes])


def _without_needless(cover, on):
    """The cover without the cubes that `on` does not need, the last ones first."""
    for index in reversed(range(len(cover))):
        rest = cover[:index] + cover[index + 1:]
        if _contains_all(rest, on):
            cover = rest
    return cover


def _without_literals_of(cube, other):
    """The cube with "-" where the other one has a literal."""
    return "".join([own if literal == "-" else "-" for own, literal in zip(cube, other)])


def _first_literal(cube):
    """The first index with a literal, in a cube that has one."""
    return len(cube) - len(cube.lstrip("-"))
