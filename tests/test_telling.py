"""Point 77: telling worlds apart."""

import random
import unittest

from galloon.bales import Bale
from galloon.errors import TooMany, UnknownLetter, UnknownWorld, UnlikeSchemes
from galloon.halls import Hall, Hidden
from galloon.masks import Mask
from galloon.paints import Paint
from galloon.passes import FreePass, Gate, Pass, Turn, mask_menu
from galloon.schemes import Scheme
from galloon.shapes import Cut, Mirror
from galloon.telling import mistaken, parting, telling
from galloon.workshops import Workshop
from tests.helpers import ONE, SCHEMES, Checked
from tests.makers import ALL_KINDS, SHORT, first_difference, in_order, made_of, plans, random_bale, random_hall

TWO = Scheme(2, 2)
EVERY = Bale.every(ONE)
SWAP = Paint(ONE, ["10"])
TURN, BACK, STILL, FLIP, CUT = Turn(ONE, 1), Turn(ONE, -1), Turn(ONE, 0), Mirror(ONE), Cut(ONE, 1, 0)
MENU = Hidden(mask_menu(SWAP, [Mask.every(), Mask.read("+(-)"), Mask.read("(+-)"), Mask.none()]))
KINDS = [kind for kind in ALL_KINDS if kind not in ("rest", "recast")]


def questions(seed, many):
    """Random halls with hidden tools, bales, plans and worlds."""
    rng = random.Random(seed)
    while many:
        scheme = rng.choice(SCHEMES[:3])
        hall = random_hall(rng, scheme, KINDS, 3, 0.7, 3)
        worlds = hall.worlds()
        if len(worlds) > 1:
            plan = rng.choice(plans(hall.letters(), 3)[1:])
            yield rng, hall, plan, worlds, random_bale(rng, scheme)
            many -= 1


class PartingTest(Checked):
    def test_plain_trying(self):
        for rng, hall, plan, worlds, bale in questions(1700, 80):
            one, two = rng.choice(worlds), rng.choice(worlds)
            most = SHORT[len(hall.scheme)]
            known = first_difference(hall.workshop(plan, one), hall.workshop(plan, two), bale, most)
            found = parting(hall, plan, one, two, bale)
            if known is None and found is not None:
                self.assertGreater(len(found[0]), most)
            else:
                self.assertEqual(found, known)

    def test_known(self):
        hall = Hall(ONE, H=MENU, F=FLIP, C=CUT)
        for plan, one, two, known in (
            ("H", (0,), (3,), ("a", "a")), ("H", (0,), (1,), ("aa", "ba")), ("H", (1,), (2,), ("aaa", "baa")), ("H", (1,), (1,), None),
            ("HH", (0,), (3,), None), ("", (0,), (3,), None), ("HF", (0,), (1,), ("aa", "ab")), ("CHF", (1,), (2,), ("aaaa", "aab")),
            ("FHCFC", (1,), (3,), None), ("HC", (1,), (3,), None),
        ):
            self.assertEqual(parting(hall, plan, one, two, EVERY), known)
            self.assertEqual(parting(hall, plan, two, one, EVERY), known)


class TellingTest(Checked):
    def plain(self, hall, plan, worlds, bale, most):
        """The first short strip that tells, or None."""
        makers = [hall.workshop(plan, world) for world in dict.fromkeys(worlds)]
        for strip in bale.strips(most):
            made = [made_of(maker, strip) for maker in makers]
            if all(made) and sum(map(len, made)) == len({out for outs in made for out in outs}):
                return strip
        return None

    def test_plain_trying(self):
        for rng, hall, plan, worlds, bale in questions(1710, 120):
            chosen = [rng.choice(worlds) for _ in range(rng.randrange(5))]
            most = SHORT[len(hall.scheme)]
            known = self.plain(hall, plan, chosen, bale, most)
            found = telling(hall, plan, chosen, bale)
            if known is None and found is not None:
                self.assertGreater(len(found), most)
                self.assertEqual(found, self.plain(hall, plan, chosen, Bale.listed(hall.scheme, [found]), len(found)))
            else:
                self.assertEqual(found, known)

    def test_worlds_named_twice_and_none_and_one(self):
        hall = Hall(ONE, H=MENU, G=Gate(ONE, "ab*"), N=Gate(ONE, "[a]b?a"))
        for plan in ("", "H", "GH"):
            self.assertEqual(telling(hall, plan, [], EVERY), "")
            self.assertEqual(telling(hall, plan, [], Bale.shaped(ONE, "bb*")), "b")
            self.assertIsNone(telling(hall, plan, [], Bale.none(ONE)))
        self.assertEqual(telling(hall, "H", [(2,)], EVERY), "")
        self.assertEqual(telling(hall, "H", [(2,), (2,), (2,)], EVERY), "")
        self.assertEqual(telling(hall, "GH", [(2,)], EVERY), "a")
        self.assertEqual(telling(hall, "GN", [(2,), (2,)], EVERY), None)
        self.assertEqual(telling(hall, "H", [(0,), (3,), (0,)], EVERY), "a")
        self.assertEqual(telling(hall, "H", [(0,), (1,), (3,)], EVERY), "aa")
        self.assertEqual(telling(hall, "H", hall.worlds() + hall.worlds(), EVERY), "aaa")
        self.assertIsNone(telling(hall, "HH", [(0,), (3,)], EVERY))
        self.assertIsNone(telling(hall, "", [(0,), (1,)], EVERY))
        self.assertIsNone(telling(hall, "H", [(1,), (2,)], Bale.shaped(ONE, ".?.?")))
        self.assertIsNone(telling(hall, "H", [(1,)], Bale.none(ONE)))

    def test_worlds_in_which_nothing_is_made(self):
        hall = Hall(ONE, H=Hidden([Gate(ONE, "a*b"), Gate(ONE, "ba*"), TURN]))
        self.assertIsNone(telling(hall, "H", [(0,), (1,), (2,)], EVERY))
        self.assertIsNone(telling(hall, "H", [(0,), (1,)], EVERY))
        self.assertEqual(telling(hall, "H", [(0,), (2,)], EVERY), "ab")
        self.assertEqual(telling(hall, "H", [(1,), (2,)], EVERY), "ba")
        self.assertEqual(telling(hall, "H", [(1,)], EVERY), "b")

    def test_only_long_strips_tell(self):
        late = [Workshop.of(ONE, Gate(ONE, "aaaaaa+"), deed) for deed in (STILL, Pass(SWAP, Mask.read("------(+)")), Gate(ONE, ".*"))]
        hall = Hall(ONE, H=Hidden(late))
        self.assertEqual(telling(hall, "H", [(0,), (1,)], EVERY), "aaaaaaa")
        self.assertIsNone(telling(hall, "H", [(0,), (2,)], EVERY))
        self.assertIsNone(telling(hall, "H", hall.worlds(), EVERY))

    def test_very_many_strips(self):
        free = FreePass(SWAP)
        hall = Hall(ONE, H=Hidden([free, Workshop.of(ONE, free, Gate(ONE, "b*")), Workshop.of(ONE, Gate(ONE, "a*"), Gate(ONE, "a*"))]))
        long = Bale.shaped(ONE, "a.......+")
        self.assertIsNone(telling(hall, "H", [(0,), (1,)], long))
        self.assertEqual(telling(hall, "H", [(1,), (2,)], long), "a" * 8)
        self.assertEqual(telling(hall, "H", [(0,)], long), "a" * 8)


class MistakenTest(Checked):
    def test_plain_trying(self):
        for rng, hall, plan, worlds, bale in questions(1720, 100):
            one, two = rng.choice(worlds), rng.choice(worlds)
            first, second, most = hall.workshop(plan, one), hall.workshop(plan, two), SHORT[len(hall.scheme)]
            known = None
            for strip in bale.strips(most):
                both = in_order(set(made_of(first, strip)) & set(made_of(second, strip)))
                if both:
                    known = (strip, both[0])
                    break
            found = mistaken(hall, plan, one, two, bale)
            if known is None and found is not None:
                self.assertGreater(len(found[0]), most)
                self.assertTrue(first.makes(*found) and second.makes(*found) and found[0] in bale)
            else:
                self.assertEqual(found, known)

    def test_known(self):
        hall = Hall(ONE, H=MENU, F=FLIP, C=CUT, X=FreePass(Paint(ONE, ["11"])))
        for plan, one, two, bale, known in (
            ("H", (0,), (3,), EVERY, ("", "")), ("H", (0,), (3,), Bale.shaped(ONE, "..*"), None), ("H", (1,), (2,), EVERY, ("", "")),
            ("H", (1,), (2,), Bale.shaped(ONE, "a.*"), ("a", "b")), ("H", (2,), (2,), Bale.shaped(ONE, "aaa"), ("aaa", "bab")),
            ("HX", (0,), (3,), Bale.shaped(ONE, "aba*"), ("ab", "bb")), ("HFC", (1,), (3,), Bale.shaped(ONE, "ab.*"), None),
            ("HC", (1,), (3,), Bale.shaped(ONE, "ab.*"), ("ab", "b")), ("XHFX", (0,), (3,), Bale.shaped(ONE, "aab|bba"), ("aab", "baa")),
            ("H", (1,), (1,), Bale.none(ONE), None),
        ):
            self.assertEqual(mistaken(hall, plan, one, two, bale), known)
            self.assertEqual(mistaken(hall, plan, two, one, bale), known)

    def test_the_order_of_finished_strips(self):
        hall = Hall(ONE, H=Hidden([FreePass(Paint(ONE, ["11"])), FreePass(Paint(ONE, ["11"]), gap=1)]), G=Gate(ONE, "ab|ba"), F=FLIP)
        self.assertEqual(mistaken(hall, "HGF", (0,), (1,), EVERY), ("aa", "ab"))
        self.assertEqual(mistaken(hall, "HG", (0,), (1,), EVERY), ("aa", "ab"))


class ErrorsTest(Checked):
    def test_errors_in_their_order(self):
        hall = Hall(ONE, H=MENU, F=FLIP)

        def told(plan, worlds, bale):
            return telling(hall, plan, worlds, bale)
        for call in (parting, mistaken):
            def asked(plan, worlds, bale):
                return call(hall, plan, worlds[0], worlds[1], bale)
            for asking in (asked, told):
                self.fails(UnlikeSchemes, {}, asking, "?" * 9, [(9,), (9,)], Bale.every(TWO))
                for plan, letter, place in (("H?", "?", 1), ("A", "A", 0), ("HHHHHHHHHA", "A", 9), ("", None, None), ("HFH", None, None)):
                    if letter is not None:
                        self.fails(UnknownLetter, {"letter": letter, "place": place}, asking, plan, [(9,), (9,)], EVERY)
                    for worlds, wrong in (
                        ([(0,), (4,)], (4,)), ([(-1,), (4,)], (-1,)), ([(), (0,)], ()), ([(0,), (0, 0)], (0, 0)), ([(7, 7), ()], (7, 7)),
                    ):
                        if letter is None:
                            self.fails(UnknownWorld, {"world": wrong}, asking, plan, worlds, EVERY)
                self.fails(TooMany, {"most": 8}, asking, "H" * 9, [(9,), (9,)], EVERY)
        self.fails(UnknownWorld, {"world": (5,)}, told, "H", [(0,), (1,), (5,), (6,)], EVERY)
        self.fails(UnknownLetter, {"letter": "?", "place": 0}, told, "?", [], EVERY)
        self.fails(TooMany, {"most": 8}, told, "F" * 9, [], EVERY)
        self.fails(UnlikeSchemes, {}, told, "", [], Bale.every(TWO))


if __name__ == "__main__":
    unittest.main()
