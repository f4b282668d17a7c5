"""Points 30 to 33: covers, partly given functions, the compact cover, restriction and complement."""

import itertools
import random
import unittest

from clockless.covers import compact_cover, complement, cover_contains, expand, implements, is_full, is_prime, restriction
from tests.test_cubes import all_codes, all_cubes, inside


def covered(cover):
    """The set of the codes that a cover contains."""
    return set().union(*[inside(cube) for cube in cover])


def functions(width):
    """All partly given functions of a width, as pairs of lists."""
    codes = all_codes(width)
    for places in itertools.product((0, 1, None), repeat=len(codes)):
        yield ([code for code, place in zip(codes, places) if place == 1],
               [code for code, place in zip(codes, places) if place == 0])


def covers(width, most):
    """All covers of a width with at most so many cubes."""
    for size in range(most + 1):
        for cubes in itertools.product(all_cubes(width), repeat=size):
            yield list(cubes)


def wide_function(seed):
    """A partly given function of width 8."""
    chance = random.Random(seed)
    codes = all_codes(8)
    chance.shuffle(codes)
    middle = chance.randint(0, 60)
    return codes[:middle], codes[middle:middle + chance.randint(0, 120)]


def reference_expansion(cube, off):
    literals = list(cube)
    for index in range(len(literals)):
        kept = literals[index]
        literals[index] = "-"
        if inside("".join(literals)) & set(off):
            literals[index] = kept
    return "".join(literals)


def reference_cover(on, off):
    cover = []
    for code in sorted(set(on)):
        if code not in covered(cover):
            cover.append(reference_expansion(code, off))
    for cube in list(reversed(cover)):
        rest = [other for other in cover if other != cube]
        if set(on) <= covered(rest):
            cover = rest
    return cover


class Contains(unittest.TestCase):
    def test_the_empty_cover(self):
        self.assertTrue(cover_contains([], "") is False)
        self.assertFalse(cover_contains([], "01"))

    def test_one_cube_is_enough(self):
        self.assertTrue(cover_contains(["0-", "-1"], "11") is True)
        self.assertTrue(cover_contains(["0-", "-1"], "00"))
        self.assertFalse(cover_contains(["0-", "-1"], "10"))
        self.assertTrue(cover_contains([""], ""))

    def test_against_all_codes(self):
        for cover in covers(2, 3):
            self.assertEqual({code for code in all_codes(2) if cover_contains(cover, code)}, covered(cover))


class Implements(unittest.TestCase):
    def test_empty_lists(self):
        self.assertTrue(implements([], [], []) is True)
        self.assertTrue(implements([], [], ["0"]))
        self.assertTrue(implements(["-"], ["0"], []))
        self.assertTrue(implements([], ["0"], []) is False)

    def test_codes_of_neither_list_do_not_matter(self):
        self.assertTrue(implements(["1-"], ["11"], ["00"]))
        self.assertTrue(implements(["11"], ["11"], ["00"]))
        self.assertFalse(implements(["1-"], ["11", "01"], ["00"]))
        self.assertFalse(implements(["1-", "0-"], ["11"], ["00"]))

    def test_against_the_definition(self):
        functions_of_2 = list(functions(2))
        for cover in covers(2, 2):
            for on, off in functions_of_2:
                self.assertEqual(implements(cover, on, off),
                                 set(on) <= covered(cover) and not set(off) & covered(cover))


class Expand(unittest.TestCase):
    def test_from_left_to_right(self):
        self.assertEqual(expand("11", ["00"]), "-1")
        self.assertEqual(expand("111", ["000", "010"]), "--1")
        self.assertEqual(expand("111", ["110", "001"]), "-11")
        self.assertEqual(expand("11", ["01", "10"]), "11")

    def test_no_off(self):
        self.assertEqual(expand("0110", []), "----")
        self.assertEqual(expand("", []), "")
        self.assertEqual(expand("--", []), "--")

    def test_codes_twice_and_not_ascending(self):
        self.assertEqual(expand("11", ["10", "00", "10"]), "-1")

    def test_literals_that_are_none_already(self):
        self.assertEqual(expand("-11", ["000", "001"]), "-1-")

    def test_against_the_words(self):
        for width in range(3):
            for _, off in functions(width):
                for cube in all_cubes(width):
                    if not inside(cube) & set(off):
                        wide = expand(cube, off)
                        self.assertEqual(wide, reference_expansion(cube, off))
                        self.assertTrue(is_prime(wide, off))
                        self.assertTrue(inside(cube) <= inside(wide))

    def test_width_8(self):
        for seed in range(20):
            on, off = wide_function(seed)
            for code in on:
                self.assertEqual(expand(code, off), reference_expansion(code, off))


class Prime(unittest.TestCase):
    def test_some_cubes(self):
        self.assertTrue(is_prime("--", []) is True)
        self.assertTrue(is_prime("", []) is True)
        self.assertTrue(is_prime("", [""]) is False)
        self.assertTrue(is_prime("0-", []) is False)
        self.assertTrue(is_prime("1-", ["00"]))
        self.assertTrue(is_prime("-1", ["00"]))
        self.assertFalse(is_prime("11", ["00"]))
        self.assertFalse(is_prime("--", ["00"]))
        self.assertFalse(is_prime("0-", ["00", "10"]))
        self.assertFalse(is_prime("1-0", ["001"]))

    def test_against_the_definition(self):
        for width in range(3):
            for _, off in functions(width):
                for cube in all_cubes(width):
                    wider = [cube[:k] + "-" + cube[k + 1:] for k in range(width) if cube[k] != "-"]
                    expected = (not inside(cube) & set(off)
                                and all(inside(other) & set(off) for other in wider))
                    self.assertEqual(is_prime(cube, off), expected)


class CompactCover(unittest.TestCase):
    def test_empty_lists(self):
        self.assertEqual(compact_cover([], []), [])
        self.assertEqual(compact_cover([], ["0", "1"]), [])
        self.assertEqual(compact_cover(["01"], []), ["--"])
        self.assertEqual(compact_cover([""], []), [""])
        self.assertEqual(compact_cover([], [""]), [])

    def test_the_order_of_the_cubes(self):
        self.assertEqual(compact_cover(["10", "01"], ["00", "11"]), ["01", "10"])
        self.assertEqual(compact_cover(["111", "001", "100"], ["000", "110", "011", "101"]), ["001", "100", "111"])

    def test_a_needless_cube_is_removed(self):
        # 100 gives 1-0, 101 gives 10-, which contains both.
        self.assertEqual(compact_cover(["100", "101"], ["000", "001", "010", "011", "111"]), ["10-"])

    def test_the_last_needless_cube_goes_first(self):
        # The primes are -00, 0-0 and 01-, in this order. Each of the first two could go, but not both.
        self.assertEqual(compact_cover(["000", "010", "011"], ["001", "110", "111"]), ["-00", "01-"])
        self.assertEqual(compact_cover(["000", "001", "010", "110", "111"], ["011", "100", "101"]),
                         ["0-0", "00-", "11-"])

    def test_codes_twice_and_not_ascending(self):
        self.assertEqual(compact_cover(["11", "01", "11", "01"], ["10", "00", "10"]), ["-1"])
        self.assertEqual(compact_cover(["10", "01", "10"], ["11", "00", "00"]), ["01", "10"])

    def test_against_the_words(self):
        for width in range(4):
            for on, off in functions(width):
                cover = compact_cover(list(reversed(on)), off)
                self.assertEqual(cover, reference_cover(on, off))

    def test_what_point_32_says_of_the_result(self):
        for on, off in functions(3):
            cover = compact_cover(on, off)
            self.assertTrue(implements(cover, on, off))
            self.assertTrue(all([is_prime(cube, off) for cube in cover]))
            for index in range(len(cover)):
                self.assertFalse(implements(cover[:index] + cover[index + 1:], on, off))

    def test_width_8(self):
        for seed in range(20):
            on, off = wide_function(seed)
            self.assertEqual(compact_cover(on, off), reference_cover(on, off))

    def test_the_lists_are_not_changed(self):
        on, off = ["11", "01", "11"], ["10", "00"]
        compact_cover(on, off).append("later")
        self.assertEqual((on, off), (["11", "01", "11"], ["10", "00"]))


class Restriction(unittest.TestCase):
    def test_some_restrictions(self):
        self.assertEqual(restriction([], "0-"), [])
        self.assertEqual(restriction(["1-", "-1", "0-", "01"], "0-"), ["-1", "--", "-1"])
        self.assertEqual(restriction(["11", "00"], "--"), ["11", "00"])
        self.assertEqual(restriction(["11", "00", "-1"], "11"), ["--", "--"])
        self.assertEqual(restriction([""], ""), [""])

    def test_against_all_codes_of_the_cube(self):
        for cover in covers(2, 2):
            for cube in all_cubes(2):
                rest = restriction(cover, cube)
                self.assertEqual(covered(rest) & inside(cube), covered(cover) & inside(cube))
                meeting = [own for own in cover if inside(own) & inside(cube)]
                self.assertEqual(rest, ["".join("-" if literal != "-" else own for own, literal in zip(one, cube))
                                        for one in meeting])

    def test_the_cover_is_not_changed(self):
        cover = ["11", "0-"]
        restriction(cover, "1-").clear()
        self.assertEqual(cover, ["11", "0-"])


class Complement(unittest.TestCase):
    def test_the_ends(self):
        self.assertEqual(complement([], 0), [""])
        self.assertEqual(complement([], 3), ["---"])
        self.assertEqual(complement([], 8), ["--------"])
        self.assertEqual(complement([""], 0), [])
        self.assertEqual(complement(["---"], 3), [])
        self.assertEqual(complement(["11", "--"], 2), [])

    def test_the_order(self):
        self.assertEqual(complement(["11"], 2), ["0-", "10"])
        self.assertEqual(complement(["00"], 2), ["01", "1-"])
        self.assertEqual(complement(["-0-"], 3), ["-1-"])
        self.assertEqual(complement(["-1-", "--0"], 3), ["-01"])
        self.assertEqual(complement(["--1", "0-0"], 3), ["1-0"])
        self.assertEqual(complement(["0", "1"], 1), [])
        self.assertEqual(complement(["1-------"], 8), ["0-------"])

    def test_cubes_are_not_put_together(self):
        self.assertEqual(complement(["01-", "1-1"], 3), ["00-", "1-0"])
        self.assertEqual(complement(["0-1", "1-1"], 3), ["0-0", "1-0"])

    def test_against_the_words(self):
        for width, most in ((0, 2), (1, 3), (2, 3), (3, 2)):
            for cover in covers(width, most):
                rest = complement(cover, width)
                self.assertEqual(rest, self.reference(cover, width))
                self.assertEqual(covered(rest), set(all_codes(width)) - covered(cover))
                self.assertEqual(is_full(cover, width), covered(cover) == set(all_codes(width)))

    def reference(self, cover, width):
        """The complement as point 33 computes it, with sets of codes for the halves."""
        if not cover:
            return ["-" * width]
        if "-" * width in cover:
            return []
        k = min(index for cube in cover for index in range(width) if cube[index] != "-")
        found = []
        for value in "01":
            half = [cube[:k] + "-" + cube[k + 1:] for cube in cover if cube[k] in ("-", value)]
            found += [cube[:k] + value + cube[k + 1:] for cube in self.reference(half, width)]
        return found

    def test_width_8(self):
        for seed in range(20):
            cover, _ = wide_function(seed)
            cover = [expand(code, wide_function(seed + 100)[1]) if seed % 2 else code for code in cover]
            rest = complement(cover, 8)
            self.assertEqual(rest, self.reference(cover, 8))
            self.assertEqual(covered(rest), set(all_codes(8)) - covered(cover))

    def test_the_cover_is_not_changed(self):
        cover = ["11", "0-"]
        complement(cover, 2).clear()
        is_full(cover, 2)
        self.assertEqual(cover, ["11", "0-"])


class Full(unittest.TestCase):
    def test_some_covers(self):
        self.assertTrue(is_full([""], 0) is True)
        self.assertTrue(is_full([], 0) is False)
        self.assertTrue(is_full(["0-", "1-"], 2))
        self.assertTrue(is_full(["0-", "11", "-0"], 2))
        self.assertFalse(is_full(["0-", "11"], 2))
        self.assertTrue(is_full(["--------"], 8))
        self.assertTrue(is_full(all_codes(8), 8))
        self.assertFalse(is_full(all_codes(8)[1:], 8))
