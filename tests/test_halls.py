"""Points 72 to 74: hidden deeds, halls, worlds and the workshops of plans."""

import itertools
import random
import unittest

from galloon.deeds import Deed
from galloon.errors import BadCount, BadLetter, TooMany, UnequalFrames, UnknownLetter, UnknownWorld, UnlikeSchemes
from galloon.halls import Hall, Hidden
from galloon.masks import Mask
from galloon.paints import Paint
from galloon.passes import Turn, mask_menu
from galloon.schemes import Scheme
from galloon.shapes import Cut, Mirror
from galloon.workshops import Workshop
from tests.helpers import FAR, ONE, Checked

TWO = Scheme(2, 2)
TURN, STILL, FLIP, CUT = Turn(ONE, 1), Turn(ONE, 0), Mirror(ONE), Cut(ONE, 1, 0)
OTHER = Turn(TWO, 1)
PASSES = mask_menu(Paint(ONE, ["10"]), Mask.menu(2, 2))
WRONG_LETTERS = ("", "a", "AB", " ", "1", "[", "@", "Ab", "\u00c4", "A ")


def hidden(many):
    """A hidden deed of so many deeds."""
    return Hidden([PASSES[at % len(PASSES)] for at in range(many)])


class HiddenTest(Checked):
    def test_parts(self):
        for many in (1, 2, 12):
            deeds = [TURN] * many
            tool = Hidden(deeds)
            self.assertEqual((len(tool), tool.deeds, tool.scheme), (many, deeds, ONE))
            self.assertNotIsInstance(tool, Deed)
            deeds.append(STILL)
            deeds[0] = STILL
            self.assertEqual((len(tool), tool.deeds), (many, [TURN] * many))
        self.assertEqual(Hidden.MOST, 12)

    def test_deeds_with_equal_frames(self):
        for deeds in (
            [FLIP, Workshop.of(ONE, TURN, FLIP)], [Cut(ONE, 2, 1), Cut(ONE, 0, 3), Workshop.of(ONE, Cut(ONE, 3, 0))],
            [Workshop.of(ONE, FLIP, FLIP), TURN], [Workshop.of(ONE, CUT, FLIP), Workshop.of(ONE, FLIP, Cut(ONE, 0, 1))],
        ):
            self.assertEqual(Hidden(deeds).deeds, deeds)

    def test_errors_in_their_order(self):
        self.fails(BadCount, {"count": 0}, Hidden, [])
        for many in (13, 14, 40):
            self.fails(TooMany, {"most": 12}, Hidden, [TURN] * many)
            self.fails(TooMany, {"most": 12}, Hidden, [TURN, FLIP] * many)
        for deeds, index in (
            ([TURN, FLIP], 1), ([FLIP, FLIP, TURN, FLIP], 2), ([TURN, STILL, CUT, FLIP], 2), ([CUT, Cut(ONE, 0, 1), FLIP], 2),
            ([Cut(ONE, 1, 1), Cut(ONE, 2, 0), Cut(ONE, 2, 1)], 2), ([TURN] * 11 + [FLIP], 11),
            ([Workshop.of(ONE, CUT, FLIP), CUT], 1),
        ):
            self.fails(UnequalFrames, {"index": index}, Hidden, deeds)
        for deeds in ([TURN, OTHER], [OTHER, TURN], [TURN] * 12 + [OTHER], [TURN, FLIP, OTHER], [OTHER] * 14 + [TURN]):
            self.fails(UnlikeSchemes, {}, Hidden, deeds)


class ToolsTest(Checked):
    def test_put_in_replaced_and_removed(self):
        hall = Hall(ONE)
        self.assertEqual((len(hall), hall.letters(), hall.hidden_letters(), hall.scheme), (0, "", "", ONE))
        tool = hidden(3)
        self.assertIsNone(hall.put("H", tool))
        hall["B"] = TURN
        self.assertIsNone(hall.put("Z", FLIP))
        self.assertEqual((len(hall), hall.letters(), hall.hidden_letters()), (3, "BHZ", "H"))
        self.assertIs(hall["H"], tool)
        self.assertIs(hall["B"], TURN)
        hall["H"] = FLIP
        hall.put("A", tool)
        self.assertEqual((len(hall), hall.letters(), hall.hidden_letters()), (4, "ABHZ", "A"))
        self.assertIs(hall["H"], FLIP)
        self.assertIsNone(hall.remove("B"))
        self.assertEqual((len(hall), hall.letters()), (3, "AHZ"))
        self.fails(UnknownLetter, {"letter": "B", "place": 0}, hall.remove, "B")
        hall.remove("A")
        self.assertEqual((hall.hidden_letters(), hall.worlds()), ("", [()]))

    def test_letters_that_no_tool_has(self):
        hall = Hall(ONE, A=TURN, H=hidden(2))
        for letter in WRONG_LETTERS + ("B", "HA", "AA"):
            self.assertIs(letter in hall, False)
            told = {"letter": letter, "place": 0}
            self.fails(UnknownLetter, told, lambda: hall[letter])
            self.fails(UnknownLetter, told, hall.remove, letter)
        self.assertIs("A" in hall, True)
        self.assertIs("H" in hall, True)
        self.assertEqual(hall.letters(), "AH")

    def test_a_hall_cannot_be_iterated_over(self):
        for hall in (Hall(ONE), Hall(ONE, A=TURN)):
            with self.assertRaises(TypeError):
                iter(hall)
            with self.assertRaises(TypeError):
                list(hall)

    def test_tools_by_keyword(self):
        for letters in itertools.permutations("AHZ"):
            hall = Hall(ONE, **{letter: {"A": TURN, "H": hidden(3), "Z": hidden(2)}[letter] for letter in letters})
            self.assertEqual((hall.letters(), hall.hidden_letters(), len(hall.worlds())), ("AHZ", "HZ", 6))
        self.assertEqual(len(Hall(ONE, **{letter: TURN for letter in "HGFEDCBA"})), 8)

    def test_wrong_keywords(self):
        for tools, wrong in (
            ({"a": TURN}, "a"), ({"AB": TURN}, "AB"), ({"z": TURN, "A": FLIP, "AB": TURN}, "AB"), ({"_": TURN, "a": TURN}, "_"),
            ({"b": TURN, "B_": TURN, "C": TURN}, "B_"),
        ):
            self.fails(BadLetter, {"letter": wrong}, Hall, ONE, **tools)
        nine = {letter: TURN for letter in "ABCDEFGHI"}
        self.fails(TooMany, {"most": 8}, Hall, ONE, **nine)
        # In ascending order: 'I' is one too many before the wrong 'a' is put in, and 'AB' comes before it.
        self.fails(TooMany, {"most": 8}, Hall, ONE, a=TURN, **nine)
        self.fails(BadLetter, {"letter": "AB"}, Hall, ONE, AB=TURN, **nine)
        self.fails(TooMany, {"most": 48}, Hall, ONE, A=hidden(12), B=hidden(5), a=TURN)
        self.fails(BadLetter, {"letter": "AA"}, Hall, ONE, A=hidden(12), B=hidden(5), AA=TURN)

    def test_unlike_schemes_come_first(self):
        self.fails(UnlikeSchemes, {}, Hall, ONE, A=OTHER)
        self.fails(UnlikeSchemes, {}, Hall, ONE, A=TURN, a=TURN, b=OTHER)
        self.fails(UnlikeSchemes, {}, Hall, ONE, AB=TURN, Z=Hidden([OTHER]))
        self.fails(UnlikeSchemes, {}, Hall, TWO, Z=Hidden([TURN]), **{letter: TURN for letter in "ABCDEFGHIJ"})
        hall = Hall(ONE, **{letter: TURN for letter in "ABCDEFGH"})
        for letter in WRONG_LETTERS + ("I", "A"):
            self.fails(UnlikeSchemes, {}, hall.put, letter, OTHER)
            self.fails(UnlikeSchemes, {}, hall.put, letter, Hidden([OTHER]))

    def test_errors_of_put_in_their_order(self):
        full = Hall(ONE, **{letter: TURN for letter in "ABCDEFGH"})
        big = Hall(ONE, A=hidden(12), B=hidden(4))

        def assign(hall, letter, tool):
            hall[letter] = tool
        for call in (lambda *args: full.put(*args), lambda *args: assign(full, *args)):
            for letter in WRONG_LETTERS:
                self.fails(BadLetter, {"letter": letter}, call, letter, TURN)
            self.fails(TooMany, {"most": 8}, call, "I", TURN)
            self.fails(TooMany, {"most": 8}, call, "I", hidden(12))
        full.change_limit(1)
        self.fails(TooMany, {"most": 8}, full.put, "I", hidden(2))
        self.fails(TooMany, {"most": 1}, full.put, "A", hidden(2))
        full.put("A", hidden(1))
        for call in (lambda *args: big.put(*args), lambda *args: assign(big, *args)):
            for letter in WRONG_LETTERS:
                self.fails(BadLetter, {"letter": letter}, call, letter, hidden(12))
            self.fails(TooMany, {"most": 48}, call, "C", hidden(2))
            self.fails(TooMany, {"most": 48}, call, "B", hidden(5))
        self.assertEqual((len(big.worlds()), big.letters(), len(big["B"])), (48, "AB", 4))
        big.put("C", hidden(1))
        big.put("B", hidden(2))
        big.put("D", hidden(2))
        self.assertEqual(len(big.worlds()), 48)
        self.fails(TooMany, {"most": 48}, big.put, "E", hidden(2))

    def test_refused_calls_change_nothing(self):
        hall = Hall(ONE, A=hidden(12), B=hidden(4), C=TURN)
        hall.limit = 48
        for call in (
            lambda: hall.put("C", hidden(2)), lambda: hall.put("B", hidden(12)), lambda: hall.put("ab", TURN),
            lambda: hall.put("A", OTHER), lambda: hall.remove("Z"), lambda: hall.change_limit(47), lambda: hall.change_limit(49),
        ):
            with self.assertRaises(ValueError):
                call()
            self.assertEqual((hall.letters(), hall.hidden_letters(), len(hall.worlds()), hall.limit), ("ABC", "AB", 48, 48))
            self.assertIs(hall["C"], TURN)
            self.assertEqual((len(hall["A"]), len(hall["B"])), (12, 4))


class LimitTest(Checked):
    def test_the_limit_at_its_ends(self):
        for change in (lambda hall, limit: hall.change_limit(limit), lambda hall, limit: setattr(hall, "limit", limit)):
            hall = Hall(ONE)
            self.assertEqual(hall.limit, 48)
            for limit in (1, 48, 7):
                self.assertIsNone(change(hall, limit))
                self.assertEqual(hall.limit, limit)
            for limit in (0, 49, -1, FAR, -FAR):
                self.fails(BadCount, {"count": limit}, change, hall, limit)
                self.assertEqual(hall.limit, 7)

    def test_a_limit_below_the_number_of_worlds(self):
        hall = Hall(ONE, A=hidden(3), B=hidden(2), C=TURN)
        for limit in (1, 5):
            self.fails(TooMany, {"most": limit}, hall.change_limit, limit)
            self.fails(TooMany, {"most": limit}, setattr, hall, "limit", limit)
            self.assertEqual(hall.limit, 48)
        hall.limit = 6
        self.fails(TooMany, {"most": 6}, hall.put, "C", hidden(2))
        self.fails(TooMany, {"most": 6}, hall.put, "A", hidden(4))
        self.fails(BadCount, {"count": 0}, hall.change_limit, 0)
        hall.put("A", hidden(2))
        hall.change_limit(4)
        hall["B"] = STILL
        self.assertEqual((hall.worlds(), hall.limit), ([(0,), (1,)], 4))
        hall.limit = 2
        self.fails(TooMany, {"most": 1}, hall.change_limit, 1)
        hall.remove("A")
        hall.limit = 1
        self.assertEqual(hall.worlds(), [()])


class WorldsTest(Checked):
    def test_worlds_in_order(self):
        self.assertEqual(Hall(ONE).worlds(), [()])
        self.assertEqual(Hall(ONE, A=TURN).worlds(), [()])
        self.assertEqual(Hall(ONE, Z=hidden(2), A=TURN).worlds(), [(0,), (1,)])
        rng = random.Random(1500)
        for _ in range(20):
            sizes = {letter: rng.randint(1, 3) for letter in rng.sample("ABCDEF", 3)}
            hall = Hall(ONE, M=TURN, **{letter: hidden(size) for letter, size in sizes.items()})
            known = list(itertools.product(*[range(sizes[letter]) for letter in sorted(sizes)]))
            self.assertEqual((hall.worlds(), hall.hidden_letters()), (known, "".join(sorted(sizes))))
        hall = Hall(ONE, A=hidden(2))
        hall.worlds().clear()
        self.assertEqual(hall.worlds(), [(0,), (1,)])

    def test_workshops_of_plans(self):
        first, second = hidden(3), Hidden([TURN, STILL])
        hall = Hall(ONE, A=first, M=FLIP, Z=second, K=CUT)
        for world in hall.worlds():
            told = {"A": first.deeds[world[0]], "M": FLIP, "Z": second.deeds[world[1]], "K": CUT}
            for plan in ("", "A", "Z", "ZAMKAZMK", "AAAAAAAA", "KM"):
                workshop = hall.workshop(plan, world)
                self.assertIsInstance(workshop, Workshop)
                self.assertEqual(workshop.deeds, [told[letter] for letter in plan])
                self.assertEqual((workshop.short, workshop.flips), (plan.count("K"), plan.count("M") % 2 == 1))
                self.assertEqual(workshop.scheme, ONE)
        self.assertEqual(Hall(ONE, M=FLIP).workshop("MM", ()).deeds, [FLIP, FLIP])

    def test_wrong_plans(self):
        hall = Hall(ONE, A=hidden(3), M=FLIP)
        for plan, letter, place in (
            ("B", "B", 0), ("AMa", "a", 2), ("AAAAAAAAAAB", "B", 10), ("A M", " ", 1), ("BA" * 9, "B", 0), ("M?B", "?", 1),
        ):
            for world in ((0,), (7,), ()):
                self.fails(UnknownLetter, {"letter": letter, "place": place}, hall.workshop, plan, world)
        for plan in ("A" * 9, "AM" * 5, "M" * 40):
            for world in ((0,), (7,), ()):
                self.fails(TooMany, {"most": 8}, hall.workshop, plan, world)

    def test_wrong_worlds(self):
        hall = Hall(ONE, A=hidden(3), B=hidden(2), M=FLIP)
        for world in ((), (0,), (0, 0, 0), (3, 0), (0, 2), (-1, 0), (0, -1), (2, 1, 0), (FAR, 0)):
            for plan in ("", "M", "A", "ABMBA"):
                self.fails(UnknownWorld, {"world": world}, hall.workshop, plan, world)
        self.fails(UnknownWorld, {"world": (0,)}, Hall(ONE, M=FLIP).workshop, "M", (0,))
        self.assertEqual(len(hall.workshop("ABM", (2, 1))), 3)


if __name__ == "__main__":
    unittest.main()
