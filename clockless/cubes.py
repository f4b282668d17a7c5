"""Cubes: strings of "0", "1" and "-" that contain codes."""


def contains(cube, code):
    """Whether each literal of the cube is the character of the code there."""
    return all([literal in ("-", value) for literal, value in zip(cube, code)])


def is_inside(cube, other):
    """Whether the other cube contains every code that the cube contains."""
    return contains(other, cube)


def intersection(cube, other):
    """The cube of the codes that are in both, or None if there are none."""
    both = [_common(first, second) for first, second in zip(cube, other)]
    return None if None in both else "".join(both)


def hull(codes):
    """The smallest cube that contains all of the codes."""
    return "".join([_agreed([code[index] for code in codes]) for index in range(len(codes[0]))])


def literal_count(cube):
    """The number of literals of the cube."""
    return len(cube) - cube.count("-")


def codes_in(cube):
    """The codes that the cube contains, in ascending order."""
    codes = [""]
    for character in cube:
        values = "01" if character == "-" else character
        codes = [code + value for code in codes for value in values]
    for code in codes:
        yield code


def with_character(cube, index, character):
    """The cube with this character at the index."""
    return cube[:index] + character + cube[index + 1:]


def _common(first, second):
    """The character of the intersection at one index, or None."""
    if first == "-":
        return second
    return first if second in ("-", first) else None


def _agreed(values):
    """The value that all of the values are, or "-"."""
    return values[0] if values.count(values[0]) == len(values) else "-"
