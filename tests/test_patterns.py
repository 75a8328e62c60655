"""Points 7 and 8: patterns, and the place where a pattern is wrong."""

import random
import re
import unittest

from galloon.bales import Bale
from galloon.errors import BadPattern
from galloon.schemes import Scheme
from tests.helpers import ONE, SCHEMES, Checked, check_least_bale, members, words

THREE = Scheme(1, 3)
TWO = Scheme(2, 2)
TALL = Scheme(3, 2)


def as_regex(scheme, pattern):
    """The pattern as a regular expression of Python, over the columns of the scheme."""
    def coloured(found):
        row, colour = int(found.group()[0]), found.group()[1]
        return "[" + "".join(c for c in scheme.columns if scheme.spots(c)[row] == colour) + "]"
    text = re.sub("[0-9][0-9]", coloured, pattern)
    return re.compile(text.replace(".", "[" + scheme.columns + "]").replace("(", "(?:"))


def described(scheme, pattern, most):
    """The strips of at most so many columns that a pattern describes, by Python's own means."""
    regex = as_regex(scheme, pattern)
    return [word for word in words(scheme, most) if regex.fullmatch(word)]


def random_pattern(rng, scheme, depth, left):
    """A pattern of at most so many atoms; `left` is a list with one integer."""
    branches = []
    for _ in range(rng.choice([1, 1, 2, 3])):
        branch = ""
        for _ in range(rng.randrange(4)):
            kind = rng.randrange(8)
            if kind < 3 and depth < 3:
                atom = "(" + random_pattern(rng, scheme, depth + 1, left) + ")"
            elif left[0] == 0:
                continue
            else:
                left[0] -= 1
                listed = sorted(rng.sample(scheme.columns, rng.randrange(1, len(scheme) + 1)))
                spot = str(rng.randrange(scheme.rows)) + str(rng.randrange(scheme.colours))
                atom = [rng.choice(scheme.columns), ".", spot, "[" + "".join(listed) + "]"][kind % 4]
            branch += atom + rng.choice(["", "", "", "?", "*", "+"])
        branches.append(branch)
    return "|".join(branches)


class DescribedTest(Checked):
    def agrees(self, scheme, pattern, most):
        bale = Bale.shaped(scheme, pattern)
        self.assertEqual(members(bale, most), described(scheme, pattern, most), pattern)
        check_least_bale(self, bale)

    def test_the_atoms(self):
        cases = [
            (ONE, "a", ["a"]),
            (ONE, ".", ["a", "b"]),
            (THREE, "01", ["b"]),
            (TWO, "01", ["c", "d"]),
            (TWO, "10", ["a", "c"]),
            (TWO, "[ad]", ["a", "d"]),
            (TWO, "[b]", ["b"]),
            (TWO, "(c)", ["c"]),
            (TALL, "21", ["b", "d", "f", "h"]),
            (Scheme(2, 3), "12", ["c", "f", "i"]),
        ]
        for scheme, pattern, strips in cases:
            self.assertEqual(members(Bale.shaped(scheme, pattern), 2), strips)

    def test_the_empty_pattern_and_empty_branches(self):
        for pattern in ["", "()", "|", "||", "(|)", "()*", "()+", "()?", "(())", "((()))"]:
            self.assertEqual(members(Bale.shaped(ONE, pattern), 3), [""], pattern)
        for pattern in ["|a", "a|", "(|a)", "(a|)", "a?", "()a?()"]:
            self.assertEqual(members(Bale.shaped(ONE, pattern), 3), ["", "a"], pattern)

    def test_repeats(self):
        self.assertEqual(members(Bale.shaped(ONE, "a?"), 3), ["", "a"])
        self.assertEqual(members(Bale.shaped(ONE, "a*"), 3), ["", "a", "aa", "aaa"])
        self.assertEqual(members(Bale.shaped(ONE, "a+"), 3), ["a", "aa", "aaa"])
        self.assertEqual(members(Bale.shaped(ONE, "(ab)+"), 5), ["ab", "abab"])
        self.assertEqual(members(Bale.shaped(ONE, "(a|bb)*b"), 3), ["b", "ab", "aab", "bbb"])

    def test_a_repeat_binds_the_atom_before_it_only(self):
        self.assertEqual(members(Bale.shaped(ONE, "ab*"), 3), ["a", "ab", "abb"])
        self.assertEqual(members(Bale.shaped(ONE, "a|b*"), 3), ["", "a", "b", "bb", "bbb"])

    def test_chosen_patterns(self):
        chosen = [
            "a*b", "(aa)*", "(a|b)*a", "(a*b?)*", "((a+)?b)+", "(a|)(b|)", "a?a?a?aaa", "(ab|ba)*",
            "(a|b|aa)+b?", "((a*)*)*", "(a?)+", "00*01*", "[ab]*a..", "(.(.(.)?)?)?", "a+|b+|",
        ]
        for pattern in chosen:
            for scheme, most in [(ONE, 6), (THREE, 4)]:
                self.agrees(scheme, pattern, most)

    def test_many_patterns(self):
        rng = random.Random(7)
        for scheme, most in zip(SCHEMES, [6, 4, 4, 2, 2]):
            for _ in range(120):
                self.agrees(scheme, random_pattern(rng, scheme, 0, [12]), most)

    def test_twelve_atoms(self):
        self.assertEqual(Bale.shaped(ONE, "a" * 12).first(), "a" * 12)
        bale = Bale.shaped(ONE, "(a|b)*a........")
        self.assertEqual(len(bale.rows), 2 ** 9)
        self.assertEqual(bale.how_many(40), 2 ** 39)
        self.assertEqual(len(Bale.shaped(ONE, ".*a..........").rows), 2 ** 11)

    def test_parentheses_are_no_atoms(self):
        self.assertEqual(Bale.shaped(ONE, "()" * 20 + "(a)" * 12).first(), "a" * 12)


class PlacesTest(Checked):
    def places(self, scheme, cases):
        for pattern, place in cases:
            self.fails(BadPattern, {"place": place}, Bale.shaped, scheme, pattern)

    def test_the_examples_of_the_document(self):
        self.places(ONE, [("a**", 2), ("*a", 0), ("(a", 2), ("[ba]", 2)])
        self.assertEqual(Bale.shaped(ONE, "").first(), "")

    def test_characters_that_begin_no_atom(self):
        for sign in ["c", "A", " ", "]", "-", "{", "^", "#", "\\", "\n", "\u0660", "\u00b2", "_"]:
            self.places(ONE, [(sign, 0), ("ab" + sign, 2), ("(a" + sign + ")", 2), ("a|" + sign, 2)])
        self.places(TWO, [("e", 0), ("dcbae", 4)])

    def test_repeats_that_follow_no_atom(self):
        for sign in "?*+":
            self.places(ONE, [(sign, 0), ("a|" + sign, 2), ("(" + sign + "a)", 1), ("a*" + sign, 2),
                              ("(a)?" + sign, 4), ("a+" + sign + "b", 2), ("|" + sign, 1)])

    def test_closing_parentheses(self):
        self.places(ONE, [(")", 0), ("a)", 1), ("(a))", 3), ("()()b)a", 5)])

    def test_square_brackets(self):
        self.places(THREE, [("[]", 1), ("[aa]", 2), ("[acb]", 3), ("[ad]", 2), ("[a-c]", 2), ("[.]", 1),
                            ("[[a]]", 1), ("[^a]", 1), ("[00]", 1), ("[a|b]", 2), ("a[b*]", 3), ("[a]]", 3)])

    def test_digits(self):
        self.places(ONE, [("10", 0), ("20", 0), ("90", 0), ("02", 1), ("0a", 1), ("0*", 1), ("000", 3), ("0.", 1)])
        self.places(THREE, [("03", 1), ("10", 0), ("a30", 1)])
        self.places(TWO, [("20", 0), ("12", 1), ("0[", 1)])
        self.places(TALL, [("30", 0), ("22", 1)])

    def test_the_thirteenth_atom(self):
        for atom in ["a", ".", "00", "[ab]", "0", "[b", "["]:
            self.places(ONE, [("a" * 12 + atom, 12), ("a*" * 12 + "()" + atom, 26)])
            self.places(ONE, [("(" + "a" * 12 + "|" + atom, 14), ("." * 6 + "(b" * 3 + ")))bbb(" + atom, 19)])
        self.places(ONE, [("a" * 14, 12), ("a" * 12 + "c", 12)])

    def test_four_deep(self):
        self.places(ONE, [("((((", 3), ("(((a(", 4), ("()((()((", 7), ("(((())))", 3)])
        self.assertEqual(Bale.shaped(ONE, "(((a)))(((b)))").first(), "ab")

    def test_patterns_that_end_too_early(self):
        self.places(ONE, [("0", 1), ("ab0", 3), ("[", 1), ("[a", 2), ("[ab", 3), ("(", 1), ("a(b", 3),
                          ("((a)", 4), ("(a|", 3), ("(a*", 3), ("((", 2), ("(0", 2), ("([a", 3)])

    def test_the_first_wrong_character_counts(self):
        self.places(ONE, [("a**)", 2), (")*", 0), ("[ba]**", 2), ("(*", 1), ("(((x((", 3), ("a)0", 1)])


if __name__ == "__main__":
    unittest.main()
