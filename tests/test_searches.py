"""Points 75 and 76: plans that do what is wanted, and tools that do the same."""

import random
import unittest

from galloon.bales import Bale
from galloon.errors import BadCount, BadStrip, TooMany, UnknownLetter, UnlikeSchemes
from galloon.halls import Hall, Hidden
from galloon.masks import Mask
from galloon.paints import Paint
from galloon.passes import FreePass, Gate, Pass, Stamp, Turn, mask_menu
from galloon.schemes import Scheme
from galloon.searches import least_plan, plan_between, swaps, tool_classes, undoing_plan
from galloon.shapes import Cut, Mirror
from galloon.workshops import Workshop
from tests.helpers import FAR, ONE, SCHEMES, Checked, words
from tests.makers import made_of, plans, random_bale, random_deed, random_hall
from tests.test_passes import random_strip

TWO = Scheme(2, 2)
EVERY = Bale.every(ONE)
SWAP = Pass(Paint(ONE, ["10"]), Mask.every())
TURN, BACK, STILL, FLIP, CUT = Turn(ONE, 1), Turn(ONE, -1), Turn(ONE, 0), Mirror(ONE), Cut(ONE, 1, 0)
FLAT = Pass(Paint(ONE, ["00"]), Mask.every())
KINDS = ("pass", "stamp", "turn", "once", "free", "gate", "mirror", "cut", "border")
# How long the strips are that are asked about where plans are tried.
SHORT = {2: 5, 3: 3, 4: 3}


def halls(seed, many):
    """Random halls of the smaller schemes with at most three tools, and bales of short strips."""
    rng = random.Random(seed)
    for _ in range(many):
        scheme = rng.choice(SCHEMES[:3])
        hall = random_hall(rng, scheme, KINDS, 3, 0.4, 3)
        bale = random_bale(rng, scheme) & Bale.shaped(scheme, ".?" * SHORT[len(scheme)])
        yield rng, hall, bale


def strips_in(bale):
    """The strips of a bale of short ones."""
    return list(bale.strips(10))


def is_done(hall, plan, goal, bale):
    """Does a plan do in each world what a deed does?"""
    return all(
        made_of(hall.workshop(plan, world), strip) == made_of(goal, strip)
        for world in hall.worlds() for strip in strips_in(bale)
    )


class LeastPlanTest(Checked):
    def test_plain_trying(self):
        for rng, hall, bale in halls(1600, 60):
            goal = rng.choice((
                random_deed(rng, hall.scheme, KINDS), hall.workshop(rng.choice(plans(hall.letters(), 2)), hall.worlds()[-1]),
            ))
            for most in (0, 2, 3):
                known = [plan for plan in plans(hall.letters(), most) if is_done(hall, plan, goal, bale)]
                self.assertEqual(least_plan(hall, goal, bale, most), known[0] if known else None)

    def test_infinite_bales(self):
        hall = Hall(ONE, A=FLIP, B=TURN, S=SWAP)
        for goal, most, plan in (
            (Workshop(ONE, []), 0, ""), (STILL, 4, ""), (BACK, 3, "ABA"), (BACK, 2, None), (SWAP, 4, "S"), (SWAP, 0, None),
            (Workshop.of(ONE, TURN, TURN, SWAP), 4, "BBS"), (Workshop.of(ONE, FLIP, BACK), 2, "BA"), (CUT, 4, None),
            (Workshop.of(ONE, BACK, BACK), 4, "ABBA"), (Workshop.of(ONE, BACK, SWAP), 4, "ABAS"), (FLAT, 4, None),
        ):
            self.assertEqual(least_plan(hall, goal, EVERY, most), plan)
        self.assertEqual(least_plan(hall, FLAT, Bale.none(ONE), 4), "")
        self.assertEqual(least_plan(hall, FLAT, Bale.shaped(ONE, "b*"), 4), "S")
        self.assertEqual(least_plan(Hall(ONE), STILL, EVERY, 4), "")
        self.assertIsNone(least_plan(Hall(ONE), TURN, EVERY, 4))

    def test_goals_that_flip_and_goals_that_cut(self):
        hall = Hall(ONE, A=CUT, F=FLIP)
        for goal, plan in (
            (Cut(ONE, 0, 1), "FAF"), (Cut(ONE, 1, 1), "AFAF"), (Cut(ONE, 3, 0), "AAA"), (Cut(ONE, 0, 2), "FAAF"),
            (Cut(ONE, 0, 3), None), (Workshop.of(ONE, FLIP, CUT), "FA"), (Workshop.of(ONE, CUT, FLIP), "AF"), (FLIP, "F"),
            (Workshop.of(ONE, FLIP, Cut(ONE, 1, 2)), "AAFA"), (Workshop.of(ONE, Cut(ONE, 1, 2), FLIP), "AFAA"),
        ):
            self.assertEqual(least_plan(hall, goal, EVERY, 4), plan)

    def test_hidden_tools_at_several_places(self):
        # Two turns the same way are two turns back in the other world, but on strips of four columns they are the same.
        hall = Hall(ONE, H=Hidden([TURN, BACK]), S=Hidden([SWAP, STILL]))
        goal = Workshop.of(ONE, TURN, TURN)
        self.assertIsNone(least_plan(hall, goal, EVERY, 4))
        self.assertEqual(least_plan(hall, goal, Bale.shaped(ONE, "...."), 4), "HH")
        self.assertEqual(least_plan(hall, TURN, Bale.shaped(ONE, ".?.?"), 4), "H")
        self.assertEqual(least_plan(hall, Workshop.of(ONE, TURN, TURN, TURN), Bale.shaped(ONE, "(......)?"), 4), "HHH")
        self.assertEqual(least_plan(Hall(ONE, S=Hidden([SWAP, STILL])), STILL, EVERY, 4), "")
        found = least_plan(Hall(ONE, S=Hidden([SWAP, STILL]), T=TURN), Workshop.of(ONE, TURN), Bale.shaped(ONE, "(ab)*"), 4)
        self.assertEqual(found, "T")

    def test_errors_in_their_order(self):
        hall, other = Hall(ONE, A=TURN), Hall(TWO)
        for most in (-1, 5, FAR, -FAR):
            self.fails(BadCount, {"count": most}, least_plan, hall, FLIP, EVERY, most)
            self.fails(UnlikeSchemes, {}, least_plan, other, FLIP, EVERY, most)
            self.fails(UnlikeSchemes, {}, least_plan, hall, Mirror(TWO), EVERY, most)
            self.fails(UnlikeSchemes, {}, least_plan, hall, FLIP, Bale.every(TWO), most)
        for most in range(5):
            self.assertEqual(least_plan(hall, Workshop(ONE, [TURN] * 4), EVERY, most), "AAAA" if most == 4 else None)


class PlanBetweenTest(Checked):
    def test_plain_trying(self):
        for rng, hall, _ in halls(1610, 80):
            scheme = hall.scheme
            before = random_strip(rng, scheme, 0, SHORT[len(scheme)])
            likely = made_of(hall.workshop(rng.choice(plans(hall.letters(), 3)), hall.worlds()[0]), before)
            after = rng.choice(likely) if likely and rng.random() < 0.8 else random_strip(rng, scheme, 0, 3)
            worlds = hall.worlds()
            made = {plan: [made_of(hall.workshop(plan, world), before) for world in worlds] for plan in plans(hall.letters(), 3)}
            for most in (0, 1, 3):
                tried = plans(hall.letters(), most)
                sure = [plan for plan in tried if all(outs == [after] for outs in made[plan])]
                perhaps = [plan for plan in tried if any(after in outs for outs in made[plan])]
                self.assertEqual(plan_between(hall, before, after, most), sure[0] if sure else None)
                self.assertEqual(plan_between(hall, before, after, most, surely=True), sure[0] if sure else None)
                self.assertEqual(plan_between(hall, before, after, most, surely=False), perhaps[0] if perhaps else None)

    def test_known(self):
        hall = Hall(ONE, C=CUT, F=FLIP, H=Hidden([SWAP, STILL]), X=FreePass(Paint(ONE, ["10"])))
        for before, after, sure, perhaps in (
            ("ab", "ab", "", ""), ("ab", "ba", "F", "F"), ("aab", "", "CCC", "CCC"), ("aab", "aa", "FC", "CX"), ("abb", "ab", "FCF", "CX"), ("aa", "bb", None, "H"),
            ("aab", "bba", None, "H"), ("aab", "bab", None, "X"), ("", "a", None, None), ("abb", "aa", None, "CH"),
        ):
            self.assertEqual(plan_between(hall, before, after, 4), sure)
            self.assertEqual(plan_between(hall, before, after, 4, surely=False), perhaps)

    def test_hidden_tools_at_several_places(self):
        hall = Hall(ONE, H=Hidden([TURN, BACK]))
        self.assertEqual(plan_between(hall, "aabb", "bbaa", 4), "HH")
        self.assertEqual(plan_between(hall, "aab", "aba", 4, surely=False), "H")
        self.assertIsNone(plan_between(hall, "aab", "aba", 4))
        # One turn forth and one back would do it, but the tool is the same at both places.
        self.assertIsNone(plan_between(hall, "aaaab", "baaaa", 3))
        self.assertEqual(plan_between(hall, "aaaab", "baaaa", 3, surely=False), "H")

    def test_very_many_strips(self):
        hall = Hall(ONE, A=FreePass(Paint(ONE, ["10"]), gap=1), B=FLAT)
        self.assertEqual(plan_between(hall, "b" * 20, "a" * 20, 4), "B")
        self.assertEqual(plan_between(hall, "b" * 20, "bba" * 6 + "bb", 4, surely=False), "A")
        self.assertEqual(plan_between(hall, "b" * 20, "aba" * 6 + "aa", 4, surely=False), "AA")
        self.assertEqual(plan_between(hall, "a" * 20, "ab" * 10, 4, surely=False), "A")
        self.assertIsNone(plan_between(hall, "b" * 20, "ab" * 10, 4))

    def test_errors_in_their_order(self):
        hall = Hall(ONE, A=TURN)
        for most in (-1, 5, FAR):
            self.fails(BadCount, {"count": most}, plan_between, hall, "?", "!", most)
        self.fails(BadStrip, {"text": "?"}, plan_between, hall, "?", "!", 4)
        self.fails(BadStrip, {"text": "c"}, plan_between, hall, "a", "c", 0, surely=False)


class UndoingPlanTest(Checked):
    def test_plain_trying(self):
        for rng, hall, bale in halls(1620, 60):
            plan = rng.choice(plans(hall.letters(), 3))
            for most in (0, 2, 3):
                known = [
                    back for back in plans(hall.letters(), most)
                    if is_done(hall, plan + back, Workshop(hall.scheme, []), bale)
                ]
                self.assertEqual(undoing_plan(hall, plan, bale, most), known[0] if known else None)

    def test_known(self):
        hall = Hall(ONE, A=FLIP, B=TURN, C=BACK, S=SWAP, X=FreePass(Paint(ONE, ["10"])), Z=FLAT)
        for plan, most, back in (
            ("", 4, ""), ("A", 4, "A"), ("A", 0, None), ("BB", 4, "CC"), ("BA", 4, "AC"), ("BA", 1, None), ("BC", 0, ""), ("S", 4, "S"),
            ("X", 2, None), ("Z", 2, None), ("BBAS", 4, "ACCS"), ("BSBB", 4, "CCCS"), ("BBBB", 3, None), ("BABB", 1, None),
        ):
            self.assertEqual(undoing_plan(hall, plan, EVERY, most), back)
        self.assertEqual(undoing_plan(hall, "Z", Bale.shaped(ONE, "b*"), 4), "S")
        self.assertEqual(undoing_plan(hall, "B", Bale.shaped(ONE, "(..)?"), 4), "A")
        self.assertEqual(undoing_plan(hall, "ZX", Bale.none(ONE), 4), "")
        self.assertIsNone(undoing_plan(Hall(ONE, A=CUT), "A", EVERY, 4))
        self.assertEqual(undoing_plan(Hall(ONE, A=CUT), "A", Bale.none(ONE), 4), "")

    def test_hidden_tools_at_several_places(self):
        hall = Hall(ONE, H=Hidden([TURN, BACK]), F=FLIP)
        self.assertEqual(undoing_plan(hall, "H", EVERY, 4), "FHF")
        self.assertEqual(undoing_plan(hall, "HH", EVERY, 4), "FHHF")
        self.assertIsNone(undoing_plan(hall, "HHH", EVERY, 4))
        self.assertEqual(undoing_plan(hall, "HHH", Bale.shaped(ONE, "...."), 4), "H")
        self.assertEqual(undoing_plan(hall, "HFHF", EVERY, 4), "")
        self.assertEqual(undoing_plan(Hall(ONE, H=Hidden([SWAP, STILL])), "HHH", EVERY, 4), "H")

    def test_errors_in_their_order(self):
        hall = Hall(ONE, A=STILL)
        for most in (-1, 5, FAR):
            self.fails(BadCount, {"count": most}, undoing_plan, hall, "B" * 9, EVERY, most)
            self.fails(UnlikeSchemes, {}, undoing_plan, hall, "B", Bale.every(TWO), most)
        for plan, letter, place in (("B", "B", 0), ("AAAAb", "b", 4), ("AAAAAAAAAAA?", "?", 11), ("A A", " ", 1)):
            self.fails(UnknownLetter, {"letter": letter, "place": place}, undoing_plan, hall, plan, EVERY, 4)
        for many in (5, 8, 9, 20):
            self.fails(TooMany, {"most": 4}, undoing_plan, hall, "A" * many, EVERY, 0)
        self.assertEqual(undoing_plan(hall, "AAAA", EVERY, 4), "")


class SwapsTest(Checked):
    def test_plain_trying(self):
        for _, hall, bale in halls(1630, 60):
            letters = hall.letters()
            known = []
            for one, other in [(one, other) for one in letters for other in letters if one < other]:
                alike = all(
                    made_of(hall.workshop(one + other, world), strip) == made_of(hall.workshop(other + one, world), strip)
                    for world in hall.worlds() for strip in strips_in(bale)
                )
                known += [(one, other)] if alike else []
            self.assertEqual(swaps(hall, bale), known)

    def test_known(self):
        self.assertEqual(swaps(Hall(ONE), EVERY), [])
        self.assertEqual(swaps(Hall(ONE, A=TURN), EVERY), [])
        self.assertEqual(swaps(Hall(ONE, A=TURN, B=FLIP, C=Stamp(ONE, "ab", "ba")), EVERY), [])
        hall = Hall(ONE, A=TURN, B=FLIP, S=SWAP, T=BACK, Z=STILL)
        known = [("A", "S"), ("A", "T"), ("A", "Z"), ("B", "S"), ("B", "Z"), ("S", "T"), ("S", "Z"), ("T", "Z")]
        self.assertEqual(swaps(hall, EVERY), known)
        self.assertEqual(swaps(hall, Bale.none(ONE)), [(a, b) for a in "ABSTZ" for b in "ABSTZ" if a < b])
        self.assertEqual(swaps(hall, Bale.shaped(ONE, "..")), [(a, b) for a in "ABSTZ" for b in "ABSTZ" if a < b])
        self.assertEqual(swaps(Hall(ONE, A=Hidden([TURN, Stamp(ONE, "a", "b")]), B=Stamp(ONE, "ab", "ba")), EVERY), [])
        self.assertEqual(swaps(Hall(ONE, A=Hidden([TURN, STILL]), B=Hidden([BACK, SWAP])), EVERY), [("A", "B")])
        self.fails(UnlikeSchemes, {}, swaps, hall, Bale.every(TWO))


class ToolClassesTest(Checked):
    def test_plain_trying(self):
        for _, hall, bale in halls(1640, 80):
            for letter in hall.hidden_letters():
                made = {}
                for index, deed in enumerate(hall[letter].deeds):
                    made.setdefault(tuple(tuple(made_of(deed, strip)) for strip in strips_in(bale)), []).append(index)
                self.assertEqual(tool_classes(hall, letter, bale), list(made.values()))

    def test_no_some_and_all_alike(self):
        menu = mask_menu(Paint(ONE, ["10"]), [Mask.every(), Mask.read("+(-)"), Mask.read("(+-)"), Mask.read("(-+)"), Mask.none()])
        hall = Hall(ONE, H=Hidden(menu), G=Hidden([TURN, Workshop.of(ONE, FLIP, BACK, FLIP), STILL, TURN, Gate(ONE, ".*")]), T=TURN)
        self.assertEqual(tool_classes(hall, "H", EVERY), [[0], [1], [2], [3], [4]])
        self.assertEqual(tool_classes(hall, "H", Bale.shaped(ONE, ".?")), [[0, 1, 2], [3, 4]])
        self.assertEqual(tool_classes(hall, "H", Bale.shaped(ONE, "(..)?")), [[0], [1, 2], [3], [4]])
        self.assertEqual(tool_classes(hall, "H", Bale.listed(ONE, [""])), [[0, 1, 2, 3, 4]])
        self.assertEqual(tool_classes(hall, "G", EVERY), [[0, 1, 3], [2, 4]])
        self.assertEqual(tool_classes(hall, "G", Bale.none(ONE)), [[0, 1, 2, 3, 4]])
        found = tool_classes(hall, "G", EVERY)
        found[0].append(9)
        self.assertEqual(tool_classes(hall, "G", EVERY), [[0, 1, 3], [2, 4]])

    def test_deeds_that_flip_and_cut(self):
        deeds = [Workshop.of(ONE, CUT, FLIP), Workshop.of(ONE, FLIP, CUT), Workshop.of(ONE, FLIP, Cut(ONE, 0, 1))]
        hall = Hall(ONE, H=Hidden(deeds))
        self.assertEqual(tool_classes(hall, "H", EVERY), [[0, 2], [1]])
        self.assertEqual(tool_classes(hall, "H", Bale.shaped(ONE, "a+")), [[0, 1, 2]])

    def test_letters_of_no_hidden_tool(self):
        hall = Hall(ONE, H=Hidden([TURN, STILL]), T=TURN)
        for letter in ("T", "A", "", "HH", "h", "?"):
            self.fails(UnknownLetter, {"letter": letter, "place": 0}, tool_classes, hall, letter, EVERY)
            self.fails(UnlikeSchemes, {}, tool_classes, hall, letter, Bale.every(TWO))


class ShortStripsTest(Checked):
    def test_all_strips_that_are_asked_about_are_short(self):
        for _, hall, bale in halls(1650, 10):
            most = SHORT[len(hall.scheme)]
            self.assertEqual(strips_in(bale), [strip for strip in words(hall.scheme, most) if strip in bale])


if __name__ == "__main__":
    unittest.main()
