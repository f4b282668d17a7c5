"""Points 28 and 29: cubes."""

import inspect
import itertools
import unittest

from clockless.cubes import codes_in, contains, hull, intersection, is_inside, literal_count, with_character


def all_codes(width):
    return ["".join(values) for values in itertools.product("01", repeat=width)]


def all_cubes(width):
    return ["".join(values) for values in itertools.product("01-", repeat=width)]


def inside(cube):
    """The set of the codes that the cube contains, by its definition."""
    return {code for code in all_codes(len(cube))
            if all(literal == "-" or literal == value for literal, value in zip(cube, code))}


class Contains(unittest.TestCase):
    def test_width_0(self):
        self.assertTrue(contains("", "") is True)

    def test_width_1(self):
        self.assertEqual([contains(cube, code) for cube in "01-" for code in "01"],
                         [True, False, False, True, True, True])

    def test_width_8(self):
        self.assertTrue(contains("--------", "01100110"))
        self.assertTrue(contains("0-1--1-0", "01100110"))
        self.assertTrue(contains("0-1--1-1", "01100110") is False)
        self.assertFalse(contains("1-1--1-0", "01100110"))

    def test_against_all_codes(self):
        for width in range(4):
            for cube in all_cubes(width):
                self.assertEqual({code for code in all_codes(width) if contains(cube, code)}, inside(cube))


class Pairs(unittest.TestCase):
    def test_is_inside_of_some_cubes(self):
        self.assertTrue(is_inside("", "") is True)
        self.assertTrue(is_inside("01", "0-"))
        self.assertTrue(is_inside("0-", "01") is False)
        self.assertTrue(is_inside("0-", "--"))
        self.assertTrue(is_inside("0-", "0-"))
        self.assertFalse(is_inside("0-", "1-"))
        self.assertFalse(is_inside("0-", "-0"))

    def test_intersections_of_some_cubes(self):
        self.assertEqual(intersection("", ""), "")
        self.assertEqual(intersection("0-", "-1"), "01")
        self.assertEqual(intersection("--", "-1"), "-1")
        self.assertEqual(intersection("01-", "01-"), "01-")
        self.assertIsNone(intersection("0-1", "0-0"))
        self.assertIsNone(intersection("1-------", "0-------"))
        self.assertEqual(intersection("1---0---", "---1----"), "1--10---")

    def test_against_all_pairs(self):
        for width in range(4):
            for cube in all_cubes(width):
                for other in all_cubes(width):
                    self.assertEqual(is_inside(cube, other), inside(cube) <= inside(other))
                    both = inside(cube) & inside(other)
                    meet = intersection(cube, other)
                    if both:
                        self.assertEqual(inside(meet), both)
                    else:
                        self.assertIsNone(meet)


class Hull(unittest.TestCase):
    def test_some_hulls(self):
        self.assertEqual(hull([""]), "")
        self.assertEqual(hull(["", ""]), "")
        self.assertEqual(hull(["0110"]), "0110")
        self.assertEqual(hull(["1", "0"]), "-")
        self.assertEqual(hull(["0110", "0011"]), "0-1-")
        self.assertEqual(hull(["11110000", "11110001", "01110001"]), "-111000-")

    def test_codes_twice_and_not_ascending(self):
        self.assertEqual(hull(["10", "00", "10", "10"]), "-0")
        self.assertEqual(hull(["10", "10"]), "10")

    def test_against_all_cubes(self):
        for width in range(4):
            codes = all_codes(width)
            for size in range(1, len(codes) + 1):
                for chosen in itertools.combinations(codes, size):
                    around = [cube for cube in all_cubes(width) if set(chosen) <= inside(cube)]
                    least = min(around, key=lambda cube: len(inside(cube)))
                    self.assertEqual(hull(list(reversed(chosen))), least)

    def test_the_codes_are_not_changed(self):
        codes = ["10", "00"]
        hull(codes)
        self.assertEqual(codes, ["10", "00"])


class Characters(unittest.TestCase):
    def test_literal_count(self):
        self.assertEqual([literal_count(cube) for cube in ("", "-", "0", "1", "0-1", "--------", "01010101")],
                         [0, 0, 1, 1, 2, 0, 8])

    def test_with_character(self):
        self.assertEqual(with_character("---", 0, "1"), "1--")
        self.assertEqual(with_character("010", 1, "-"), "0-0")
        self.assertEqual(with_character("010", 2, "1"), "011")
        self.assertEqual(with_character("0", 0, "0"), "0")
        self.assertEqual(with_character("01010101", 7, "-"), "0101010-")


class CodesIn(unittest.TestCase):
    def test_is_a_generator(self):
        self.assertTrue(inspect.isgenerator(codes_in("-")))

    def test_some_cubes(self):
        self.assertEqual(list(codes_in("")), [""])
        self.assertEqual(list(codes_in("1")), ["1"])
        self.assertEqual(list(codes_in("-")), ["0", "1"])
        self.assertEqual(list(codes_in("-0-")), ["000", "001", "100", "101"])
        self.assertEqual(list(codes_in("01010101")), ["01010101"])
        self.assertEqual(list(codes_in("--------")), all_codes(8))

    def test_against_all_codes(self):
        for width in range(5):
            for cube in all_cubes(width):
                self.assertEqual(list(codes_in(cube)), sorted(inside(cube)))
