"""Points 4 and 6: the order of strips, turned and mirrored strips, and rings."""

import itertools
import unittest

from galloon.errors import BadCount
from galloon.schemes import Scheme
from galloon.strips import least_turn, mirrored, rings_of, shortlex, strips_of, turned
from tests.helpers import FAR, ONE, SCHEMES, Checked, words


class OrderTest(Checked):
    def test_shortlex(self):
        self.assertEqual(shortlex(["b", "aa", "", "ab", "a", "b", "aa"]), ["", "a", "b", "aa", "ab"])
        self.assertEqual(shortlex([]), [])
        self.assertEqual(shortlex([""]), [""])

    def test_shortlex_takes_any_strings(self):
        self.assertEqual(shortlex(["z", "Z", "zz", "?", "10", "9"]), ["9", "?", "Z", "z", "10", "zz"])

    def test_shortlex_leaves_its_list_alone(self):
        strips = ["b", "a", "b"]
        shortlex(strips)
        self.assertEqual(strips, ["b", "a", "b"])
        self.assertIsNot(shortlex(strips), strips)

    def test_words_of_the_tests_are_in_order(self):
        for scheme in SCHEMES:
            self.assertEqual(shortlex(list(reversed(words(scheme, 3)))), words(scheme, 3))


class StripsOfTest(Checked):
    def test_all_strips_in_order(self):
        for scheme in SCHEMES:
            for length in range(4):
                found = ["".join(part) for part in itertools.product(scheme.columns, repeat=length)]
                self.assertEqual(list(strips_of(scheme, length)), found)

    def test_the_empty_strip(self):
        self.assertEqual(list(strips_of(ONE, 0)), [""])

    def test_negative_lengths_fail_when_iterated_over(self):
        for length in [-1, -2, -FAR]:
            made = strips_of(ONE, length)
            self.fails(BadCount, {"count": length}, next, made)

    def test_one_after_the_other(self):
        made = strips_of(Scheme(2, 3), 60)
        self.assertEqual(next(made), "a" * 60)
        self.assertEqual([next(made) for _ in range(9)][-1], "a" * 58 + "ba")

    def test_loops_within_loops(self):
        found = [(one, other) for one in strips_of(ONE, 2) for other in strips_of(ONE, 2)]
        self.assertEqual(found, list(itertools.product(words(ONE, 2)[3:], repeat=2)))


class TurnsTest(Checked):
    def test_mirrored(self):
        self.assertEqual([mirrored(strip) for strip in ["", "a", "ab", "abc"]], ["", "a", "ba", "cba"])

    def test_turned(self):
        self.assertEqual([turned("abc", by) for by in range(-3, 5)],
                         ["abc", "bca", "cab", "abc", "bca", "cab", "abc", "bca"])

    def test_turned_by_far_off_integers(self):
        for by in [FAR, -FAR, 10 ** 39, -10 ** 39]:
            at = by % 5
            self.assertEqual(turned("abcde", by), "abcde"[at:] + "abcde"[:at])

    def test_the_empty_strip(self):
        for by in [0, 1, -1, FAR, -FAR]:
            self.assertEqual(turned("", by), "")
        self.assertEqual((mirrored(""), least_turn("")), ("", ""))

    def test_least_turn(self):
        for strip in words(Scheme(1, 3), 5):
            turns = [strip[at:] + strip[:at] for at in range(len(strip) + 1)]
            self.assertEqual(least_turn(strip), min(turns))

    def test_strings_are_not_checked(self):
        self.assertEqual((mirrored("xY?"), turned("xY?", 1), least_turn("xY?")), ("?Yx", "Y?x", "?xY"))


class RingsTest(Checked):
    def test_the_rings_of_short_strips(self):
        for scheme, most in zip(SCHEMES, [10, 7, 5, 4, 4]):
            for length in range(1, most + 1):
                found = [strip for strip in strips_of(scheme, length) if least_turn(strip) == strip]
                self.assertEqual(list(rings_of(scheme, length)), found)

    def test_lengths_below_1_fail_when_iterated_over(self):
        for length in [0, -1, -FAR]:
            made = rings_of(ONE, length)
            self.fails(BadCount, {"count": length}, next, made)

    def test_one_after_the_other(self):
        made = rings_of(Scheme(3, 2), 40)
        found = [next(made) for _ in range(20)]
        self.assertEqual(found[0], "a" * 40)
        self.assertEqual(found[8], "a" * 38 + "bb")
        self.assertTrue(all(least_turn(strip) == strip for strip in found))
        self.assertEqual(found, shortlex(found))

    def test_loops_within_loops(self):
        found = [(one, other) for one in rings_of(ONE, 2) for other in rings_of(ONE, 2)]
        self.assertEqual(found, list(itertools.product(["aa", "ab", "bb"], repeat=2)))


if __name__ == "__main__":
    unittest.main()
