"""Point 88: the plain twin."""

import random
import unittest

from galloon.bales import Bale
from galloon.cases import Case
from galloon.errors import BadCount, TooMany, UnknownSheet, UnlikeSchemes
from galloon.halls import Hall, Hidden
from galloon.masks import Mask
from galloon.paints import Paint
from galloon.passes import FreePass, Gate, Pass, Turn
from galloon.plain import plain_images, plain_lost, plain_now, plain_same
from galloon.sameness import lost, same
from galloon.schemes import Scheme
from galloon.shapes import Cut, Mirror
from galloon.workshops import Workshop
from tests.case_model import LONG, change_case, refused
from tests.helpers import FAR, ONE, SCHEMES, Checked, words
from tests.makers import ALL_KINDS, first_difference, in_order, made_of, random_bale, random_deed
from tests.test_cases import random_cases

TWO = Scheme(2, 2)
EVERY = Bale.every(ONE)
FLIP, TURN, STILL = Mirror(ONE), Turn(ONE, 1), Turn(ONE, 0)
FREE = FreePass(Paint(ONE, ["10"]))
# It makes of 4 columns 256 strips.
WIDE = Scheme(2, 2)
MANY = Workshop.of(WIDE, FreePass(Paint(WIDE, ["10", "01"])), FreePass(Paint(WIDE, ["01", "10"])))


def questions(seed, many):
    rng = random.Random(seed)
    for _ in range(many):
        scheme = rng.choice(SCHEMES[:3])
        deeds = [Workshop(scheme, [random_deed(rng, scheme, ALL_KINDS) for _ in range(rng.randrange(4))]) for _ in range(2)]
        yield rng, scheme, deeds, random_bale(rng, scheme), rng.randrange(5 if len(scheme) < 4 else 4)


def short_ones(bale, most):
    """The strips of a bale of at most so many columns as a bale."""
    return Bale.listed(bale.scheme, [strip for strip in words(bale.scheme, most) if strip in bale])


class Recorder(Mirror):
    """A mirror that keeps the strips that it plays, and refuses some."""

    def __init__(self, scheme, log, name, refuses=()):
        Mirror.__init__(self, scheme)
        self.log, self.name, self.refuses = log, name, refuses

    def played(self, strip):
        self.log.append((self.name, strip))
        if strip in self.refuses:
            raise TooMany(200)
        return Mirror.played(self, strip)

    def loom(self):
        raise AssertionError("the plain twin asks for no loom")


class PlainSameTest(Checked):
    def test_plain_trying(self):
        for _, _, (first, second), bale, most in questions(2100, 120):
            found = plain_same(first, second, bale, most)
            self.assertEqual(found, first_difference(first, second, bale, most))
            self.assertEqual(found, same(first, second, short_ones(bale, most)))

    def test_it_stops_at_the_first_difference(self):
        log = []
        first, second = Recorder(ONE, log, 1), Recorder(ONE, log, 2)
        self.assertIsNone(plain_same(first, second, Bale.shaped(ONE, "a*b?"), 2))
        self.assertEqual(log, [(name, strip) for strip in ("", "a", "b", "aa", "ab") for name in (1, 2)])
        log.clear()
        self.assertEqual(plain_same(first, STILL, EVERY, 5), ("ab", "ab"))
        self.assertEqual([strip for _, strip in log], ["", "a", "b", "aa", "ab"])
        # What comes behind the first difference is not played.
        self.assertEqual(plain_same(Recorder(ONE, log, 1, ["ba"]), STILL, EVERY, 5), ("ab", "ab"))
        self.fails(TooMany, {"most": 200}, plain_same, Recorder(ONE, log, 1, ["ab"]), STILL, EVERY, 5)
        log.clear()
        self.fails(TooMany, {"most": 200}, plain_same, Recorder(ONE, log, 1, ["a"]), Recorder(ONE, log, 2), EVERY, 5)
        self.assertEqual(log, [(1, ""), (2, ""), (1, "a")])

    def test_different_numbers_of_columns_cut_off(self):
        self.assertEqual(plain_same(Cut(ONE, 4, 4), Cut(ONE, 1, 1), EVERY, 5), ("aa", ""))
        self.assertIsNone(plain_same(Cut(ONE, 4, 4), Cut(ONE, 4, 3), EVERY, 5))
        self.assertEqual(plain_same(FREE, Pass(Paint(ONE, ["10"]), Mask.every()), EVERY, 5), ("a", "a"))


class PlainLostTest(Checked):
    def test_plain_trying(self):
        for _, _, (deed, _), bale, most in questions(2110, 120):
            found = plain_lost(deed, bale, most)
            self.assertEqual(found, lost(deed, short_ones(bale, most)))

    def test_known(self):
        flat = Pass(Paint(ONE, ["00"]), Mask.every())
        self.assertEqual(plain_lost(flat, EVERY, 5), ("a", "a", "b"))
        self.assertIsNone(plain_lost(flat, EVERY, 0))
        self.assertEqual(plain_lost(flat, Bale.shaped(ONE, "a|bb|ab"), 2), ("aa", "ab", "bb"))
        self.assertIsNone(plain_lost(flat, Bale.shaped(ONE, "a|bb|aba"), 3))
        self.assertIsNone(plain_lost(FLIP, EVERY, 5))
        self.assertEqual(plain_lost(Workshop.of(ONE, Cut(ONE, 0, 1), FLIP), Bale.shaped(ONE, "b.."), 3), ("ab", "baa", "bab"))


class PlainImagesTest(Checked):
    def test_plain_trying(self):
        for _, _, (deed, _), bale, most in questions(2120, 120):
            found = plain_images(deed, bale, most)
            self.assertEqual(found, list(deed.image(short_ones(bale, most)).strips(LONG)))
            known = {out for strip in words(bale.scheme, most) if strip in bale for out in made_of(deed, strip)}
            self.assertEqual(found, in_order(known))

    def test_which_strips_are_played(self):
        log = []
        self.assertEqual(plain_images(Recorder(ONE, log, 1), Bale.shaped(ONE, "(ab)*|b"), 4), ["", "b", "ba", "baba"])
        self.assertEqual([strip for _, strip in log], ["", "b", "ab", "abab"])
        log.clear()
        self.assertEqual(plain_images(Recorder(ONE, log, 1, ["aa"]), Bale.shaped(ONE, "a*") - Bale.listed(ONE, ["aa"]), 3), ["", "a", "aaa"])
        self.fails(TooMany, {"most": 200}, plain_images, Recorder(ONE, log, 1, ["aa"]), EVERY, 2)
        self.assertEqual(plain_images(Recorder(ONE, log, 1, ["aa"]), EVERY, 1), ["", "a", "b"])
        self.fails(TooMany, {"most": 200}, plain_lost, Recorder(ONE, log, 1, ["aa"]), EVERY, 2)


class SizesTest(Checked):
    def test_most_at_its_ends(self):
        for most in (-1, 6, FAR, -FAR):
            told = {"count": most}
            self.fails(BadCount, told, plain_same, FLIP, TURN, EVERY, most)
            self.fails(BadCount, told, plain_lost, FLIP, EVERY, most)
            self.fails(BadCount, told, plain_images, FLIP, EVERY, most)
            for call in (
                lambda: plain_same(FLIP, Mirror(TWO), EVERY, most), lambda: plain_same(FLIP, FLIP, Bale.every(TWO), most),
                lambda: plain_same(Mirror(TWO), FLIP, EVERY, most), lambda: plain_lost(FLIP, Bale.every(TWO), most),
                lambda: plain_images(FLIP, Bale.every(TWO), most),
            ):
                self.fails(UnlikeSchemes, {}, call)
        self.assertEqual(plain_images(FLIP, EVERY, 0), [""])
        self.assertEqual(plain_images(FLIP, EVERY, 5), words(ONE, 5))
        self.assertIsNone(plain_same(FLIP, TURN, EVERY, 0))
        self.assertEqual(len(plain_images(Mirror(Scheme(2, 3)), Bale.shaped(Scheme(2, 3), "a*i"), 5)), 5)

    def test_too_many_only_for_strips_that_are_played(self):
        for strip in ("a" * 3, "a" * 4):
            self.assertEqual(len(made_of(MANY, strip)), 4 ** len(strip))
        self.assertEqual(len(plain_images(MANY, Bale.shaped(WIDE, "a*"), 3)), 85)
        self.fails(TooMany, {"most": 200}, plain_images, MANY, Bale.shaped(WIDE, "a*"), 4)
        self.assertEqual(len(plain_images(MANY, Bale.shaped(WIDE, "a?a?|aaaaaa"), 5)), 21)
        self.fails(TooMany, {"most": 200}, plain_same, MANY, MANY, Bale.shaped(WIDE, "a*"), 5)
        self.assertIsNone(plain_same(MANY, MANY, Bale.shaped(WIDE, "a*"), 3))
        self.assertEqual(plain_same(MANY, Mirror(WIDE), Bale.shaped(WIDE, "a*"), 5), ("a", "b"))


class PlainNowTest(Checked):
    def test_plain_trying(self):
        asked = 0
        for rng, case, _, model, change, _ in random_cases(2130, 80, 12):
            refused(change_case, case, *change)
            for name in model.sheets:
                most = rng.randrange(6)
                known = in_order({last for first, last in model.pairs(name) if len(first) <= most})
                self.assertEqual(plain_now(case, name, most), known)
                self.assertEqual(plain_now(case, name, 5), list(case.now(name).strips(LONG)))
                asked += 1
        self.assertGreater(asked, 150)

    def test_infinite_bales(self):
        case = Case(Hall(ONE, H=Hidden([TURN, STILL]), C=Cut(ONE, 1, 1), F=FLIP, G=Gate(ONE, "a*b*")))
        case.lay("s", Bale.shaped(ONE, "(ab*)+"))
        case.work("s", "HC")
        case.see("s", Bale.shaped(ONE, "b.*"))
        case.work("s", "FG")
        case.recall("s", ~Bale.listed(ONE, ["abb"]))
        for most in range(6):
            known = in_order({strip for strip in self.followed(case, most)})
            self.assertEqual(plain_now(case, "s", most), known)
        self.assertTrue(plain_now(case, "s", 5))
        self.assertTrue(all(strip in case.now("s") for strip in plain_now(case, "s", 5)))

    def followed(self, case, most):
        """The last strips, world by world and strip by strip."""
        for deeds in ([TURN, Cut(ONE, 1, 1)], [STILL, Cut(ONE, 1, 1)]):
            for first in Bale.shaped(ONE, "(ab*)+").strips(most):
                for strip in made_of(Workshop(ONE, deeds), first):
                    if first != "abb" and strip.startswith("b") and strip[::-1] in Bale.shaped(ONE, "a*b*"):
                        yield strip[::-1]

    def test_errors_in_their_order(self):
        case = Case(Hall(ONE, F=FLIP))
        case.lay("s", EVERY)
        for most in (-1, 6, FAR):
            self.fails(UnknownSheet, {"name": "t"}, plain_now, case, "t", most)
            self.fails(BadCount, {"count": most}, plain_now, case, "s", most)
        self.fails(UnknownSheet, {"name": ""}, plain_now, case, "", 3)
        self.assertEqual((plain_now(case, "s", 0), plain_now(case, "s", 2)), ([""], words(ONE, 2)))


if __name__ == "__main__":
    unittest.main()
