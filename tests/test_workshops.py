"""Points 66 and 67: workshops and their frames; with point 85, their written forms."""

import random
import unittest

from galloon.bales import Bale
from galloon.deeds import Deed
from galloon.errors import BadIndex, BadStrip, TooMany, UnlikeSchemes
from galloon.looms import Loom
from galloon.masks import Mask
from galloon.paints import Paint
from galloon.passes import FreePass, Gate, Pass, Stamp, Turn
from galloon.schemes import Scheme
from galloon.shapes import Cut, Mirror
from galloon.workshops import Workshop
from tests.deed_checks import check_deed, check_wrong_strips
from tests.helpers import FAR, ONE, SCHEMES, Checked, check_least_loom
from tests.makers import ALL_KINDS, PLAIN_KINDS, SHORT, deed_of_kind, followed, limited, random_deed, table_of
from tests.test_deeds import probe

TWO = Scheme(2, 2)
TURN, FLIP, CUT = Turn(ONE, 1), Mirror(ONE), Cut(ONE, 1, 0)
# It makes of 8 columns 256 strips, of 7 only 128.
MANY = FreePass(Paint(ONE, ["10"]))
FLAT = Pass(Paint(ONE, ["00"]), Mask.every())


def check_workshop(case, workshop, most, seed=1):
    """Everything about a workshop agrees with playing its deeds one after the other."""
    check_deed(case, workshop, table_of(workshop, most).get, most, seed, frame=frame_of(workshop))


def frame_of(workshop):
    """How many columns the deeds cut off, and whether they flip the strip in the end."""
    short, flips = 0, False
    for deed in workshop.deeds:
        short, flips = short + deed.short, flips != deed.flips
    return (short, flips)


class MembersTest(Checked):
    def test_the_empty_workshop(self):
        for scheme in SCHEMES:
            for workshop in (Workshop(scheme, []), Workshop.of(scheme)):
                self.assertEqual((len(workshop), workshop.deeds, workshop.short), (0, [], 0))
                self.assertIs(workshop.flips, False)
                self.assertEqual(workshop.loom(), Loom.identity(scheme))
                self.assertEqual((workshop.outs("ab"), workshop.played("ab"), workshop.outs("")), (["ab"], ["ab"], [""]))
                self.assertEqual((str(workshop), workshop.KIND), ("keep", "workshop"))
                bale = Bale.shaped(scheme, "ab*")
                self.assertEqual((workshop.image(bale), workshop.source(bale)), (bale, bale))

    def test_one_to_eight_deeds(self):
        for many in range(1, 9):
            for workshop in (Workshop(ONE, [TURN] * many), Workshop.of(ONE, *[TURN] * many)):
                self.assertEqual((len(workshop), workshop.deeds, workshop.scheme), (many, [TURN] * many, ONE))
                self.assertEqual(workshop.outs("abbbb"), [("abbbb" * 3)[many:many + 5]])
                self.assertIsInstance(workshop, Deed)
        self.assertEqual(Workshop.MOST, 8)

    def test_too_many_deeds(self):
        for many in (9, 10, 30):
            self.fails(TooMany, {"most": 8}, Workshop, ONE, [TURN] * many)
            self.fails(TooMany, {"most": 8}, Workshop.of, ONE, *[TURN] * many)

    def test_unlike_schemes_come_first(self):
        other = Turn(TWO, 1)
        for deeds in ([other], [TURN, other], [TURN] * 8 + [other], [other] * 9):
            self.fails(UnlikeSchemes, {}, Workshop, ONE, deeds)
            self.fails(UnlikeSchemes, {}, Workshop.of, ONE, *deeds)
        self.fails(UnlikeSchemes, {}, lambda: Workshop.of(ONE, TURN) + Workshop.of(TWO, other))
        self.fails(UnlikeSchemes, {}, lambda: Workshop(ONE, [TURN] * 5) + Workshop(TWO, [other] * 5))
        self.fails(UnlikeSchemes, {}, lambda: Workshop(ONE, [TURN] * 5) + Workshop(TWO, []))
        check_wrong_strips(self, Workshop.of(ONE, TURN, FLIP, CUT))

    def test_joining(self):
        for one, other in ((0, 0), (0, 3), (3, 0), (4, 4), (1, 7), (8, 0)):
            first, second = Workshop(ONE, [TURN] * one), Workshop(ONE, [FLIP] * other)
            joined = first + second
            self.assertEqual(joined.deeds, [TURN] * one + [FLIP] * other)
            self.assertIs(joined.flips, other % 2 == 1)
            self.assertEqual((len(first), len(second)), (one, other))
        for one, other in ((8, 1), (1, 8), (5, 4), (8, 8)):
            self.fails(TooMany, {"most": 8}, lambda: Workshop(ONE, [TURN] * one) + Workshop(ONE, [FLIP] * other))

    def test_without(self):
        workshop = Workshop.of(ONE, TURN, FLIP, CUT)
        for place, deeds in ((0, [FLIP, CUT]), (1, [TURN, CUT]), (2, [TURN, FLIP])):
            shorter = workshop.without(place)
            self.assertEqual(shorter.deeds, deeds)
            self.assertEqual((shorter.short, shorter.flips), frame_of(shorter))
        self.assertEqual(workshop.deeds, [TURN, FLIP, CUT])
        for place in (-1, -3, 3, 4, FAR, -FAR):
            self.fails(BadIndex, {"at": place}, workshop.without, place)
        self.fails(BadIndex, {"at": 0}, Workshop(ONE, []).without, 0)
        self.assertEqual(Workshop.of(ONE, FLIP).without(0).deeds, [])

    def test_lists_are_copied(self):
        deeds = [TURN, CUT]
        workshop = Workshop(ONE, deeds)
        deeds.append(FLIP)
        deeds[0] = FLIP
        self.assertEqual((workshop.deeds, len(workshop), workshop.flips), ([TURN, CUT], 2, False))
        joined = workshop + Workshop(ONE, [])
        joined.deeds.append(FLIP)
        self.assertEqual(workshop.deeds, [TURN, CUT])


class FrameTest(Checked):
    def test_mirrors_and_cuts_around_every_kind(self):
        rng = random.Random(1200)
        for kind in ALL_KINDS:
            for scheme in (ONE, Scheme(1, 3), TWO):
                deed = deed_of_kind(rng, scheme, kind)
                flip, front, back = Mirror(scheme), Cut(scheme, 1, 0), Cut(scheme, 0, 2)
                for deeds in (
                    [flip, deed], [flip, deed, flip], [front, deed], [back, deed, front], [front, flip, deed],
                    [flip, back, deed], [flip, front, deed, flip, back], [deed, flip, front], [flip, deed, front, flip],
                ):
                    check_workshop(self, Workshop(scheme, deeds), {2: 5, 3: 3, 4: 3}[len(scheme)])

    def test_random_workshops(self):
        rng = random.Random(1201)
        for at in range(60):
            scheme = rng.choice(SCHEMES[:3])
            kinds = ALL_KINDS + ("mirror", "cut", "workshop")
            workshop = Workshop(scheme, [random_deed(rng, scheme, kinds) for _ in range(rng.randrange(6))])
            check_workshop(self, workshop, {2: 5, 3: 4, 4: 3}[len(scheme)], at)

    def test_wide_schemes(self):
        rng = random.Random(1202)
        kinds = [kind for kind in ALL_KINDS if kind != "rest"] + ["mirror", "cut"]
        for scheme in SCHEMES[3:]:
            for _ in range(10):
                workshop = Workshop(scheme, [random_deed(rng, scheme, kinds) for _ in range(rng.randrange(1, 5))])
                check_workshop(self, workshop, 2)

    def test_cuts_of_a_mirrored_strip(self):
        for deeds, strip, outs in (
            ([FLIP, CUT], "aabbb", ["bbaa"]), ([CUT, FLIP], "aabbb", ["bbba"]), ([FLIP, CUT, FLIP], "aabbb", ["aabb"]),
            ([FLIP, Cut(ONE, 2, 1)], "aabab", ["ba"]), ([FLIP, CUT, CUT, FLIP, CUT], "abbaab", ["bba"]),
            ([FLIP, CUT, CUT, FLIP, CUT], "abb", [""]), ([FLIP, CUT, CUT, FLIP, CUT], "ab", []),
        ):
            workshop = Workshop(ONE, deeds)
            self.assertEqual((workshop.outs(strip), workshop.played(strip)), (outs, outs))
            said = [text[::-1] if workshop.flips else text for text in outs]
            blanks = "a" * workshop.short
            self.assertEqual(workshop.loom().outs(strip), [text + blanks for text in said])

    def test_the_loom_is_the_least_one_of_what_is_made(self):
        rng = random.Random(1203)
        for _ in range(30):
            scheme = rng.choice(SCHEMES[:3])
            workshop = Workshop(scheme, [random_deed(rng, scheme) for _ in range(rng.randrange(5))])
            check_least_loom(self, workshop.loom())
            for place in range(len(workshop)):
                # Deeds may be gathered into workshops within it.
                inner = Workshop(scheme, workshop.deeds[place:])
                outer = Workshop(scheme, workshop.deeds[:place] + [inner])
                self.assertEqual(outer.loom(), workshop.loom())
                self.assertEqual((outer.short, outer.flips), (workshop.short, workshop.flips))

    def test_other_deeds_that_cut(self):
        rng = random.Random(1204)
        for short in (0, 1, 2):
            for flips in (False, True):
                deed = probe(rng, ONE, short, flips)
                for deeds in ([FLIP, deed], [FLIP, deed, deed], [CUT, deed, FLIP, deed]):
                    workshop = Workshop(ONE, deeds)
                    for strip, outs in ((strip, self.outs_of(deeds, strip)) for strip in table_of(FLIP, 5)):
                        self.assertEqual(workshop.outs(strip), outs)
                        kept = len(strip) - workshop.short
                        said = [text[:kept] for text in workshop.loom().outs(strip)]
                        self.assertEqual(sorted(text[::-1] if workshop.flips else text for text in said), outs)

    def outs_of(self, deeds, strip):
        texts = {strip}
        for deed in deeds:
            texts = {out for text in texts for out in deed.outs(text)}
        return sorted(texts)

    def test_long_strips(self):
        strip = "ab" * 20
        workshop = Workshop.of(ONE, FLIP, TURN, CUT, FLIP, Stamp(ONE, "ba", "ab"), Cut(ONE, 4, 4), Turn(ONE, -1))
        known = followed(workshop.deeds, strip)
        self.assertEqual((workshop.outs(strip), workshop.played(strip), workshop.image(Bale.listed(ONE, [strip])).first()),
                         (known, known, known[0]))
        cuts = Workshop(TWO, [Cut(TWO, 4, 4), Mirror(TWO), Cut(TWO, 4, 0), Cut(TWO, 4, 4)])
        strip = "abcd" * 10
        self.assertEqual((cuts.outs(strip), cuts.makes(strip, cuts.played(strip)[0])), (cuts.played(strip), True))


class NestedTest(Checked):
    def test_any_depth(self):
        inner = Workshop.of(ONE, TURN)
        deepest = inner
        for _ in range(2500):
            deepest = Workshop.of(ONE, deepest)
        self.assertEqual((deepest.outs("abb"), deepest.played("abb"), str(deepest)), (["bba"], ["bba"], "turn 1"))
        self.assertEqual(deepest.loom(), TURN.loom())
        self.assertEqual((deepest.makes("abb", "bba"), len(deepest)), (True, 1))
        bale = Bale.shaped(ONE, "ab*")
        self.assertEqual((deepest.image(bale), deepest.source(bale)), (TURN.image(bale), TURN.source(bale)))

    def test_written_forms_of_deep_ones_keep_the_order(self):
        before = after = Workshop.of(ONE, CUT)
        for _ in range(1500):
            before = Workshop.of(ONE, TURN, before)
            after = Workshop.of(ONE, Workshop(ONE, []), after, FLIP, Gate(ONE, ""))
        self.assertEqual(str(before), "turn 1 ; " * 1500 + "cut 1 0")
        self.assertEqual(str(after), "cut 1 0" + " ; mirror ; gate -" * 1500)
        self.assertEqual(str(before + after), f"{before} ; {after}")
        self.assertEqual((before.deeds[0], len(after.deeds), len(before + after)), (TURN, 4, 6))

    def test_empty_ones(self):
        empty = Workshop(ONE, [])
        for _ in range(5):
            empty = Workshop(ONE, [empty] * 3)
        self.assertEqual((str(empty), len(empty), empty.played("ab"), empty.outs("ab")), ("keep", 3, ["ab"], ["ab"]))
        mixed = Workshop.of(ONE, empty, CUT, empty, Workshop.of(ONE, FLIP, empty), empty)
        self.assertEqual((str(mixed), len(mixed), mixed.flips, mixed.short), ("cut 1 0 ; mirror", 5, True, 1))
        check_workshop(self, mixed, 5)

    def test_more_than_eight_deeds_within(self):
        workshop = Workshop(ONE, [Workshop(ONE, [TURN] * 8)] * 8)
        self.assertEqual(workshop.outs("abbbb"), [("abbbb" * 20)[64:69]])
        self.assertEqual(workshop.played("abbbb"), workshop.outs("abbbb"))
        self.assertEqual(str(workshop), " ; ".join(["turn 1"] * 64))

    def test_written_forms(self):
        inner = Workshop.of(ONE, Gate(ONE, ""), Workshop.of(ONE, FLIP, Workshop(ONE, [])), CUT)
        for deeds, text in (
            ([TURN], "turn 1"), ([inner], "gate - ; mirror ; cut 1 0"), ([TURN, inner, TURN],
             "turn 1 ; gate - ; mirror ; cut 1 0 ; turn 1"), ([Workshop(ONE, [])] * 2, "keep"),
        ):
            self.assertEqual(str(Workshop(ONE, deeds)), text)


class TooManyTest(Checked):
    def test_a_deed_on_the_way(self):
        workshop = Workshop.of(ONE, MANY, FLAT)
        for strip in ("", "a" * 7, "b" * 7):
            self.assertEqual((workshop.outs(strip), workshop.played(strip)), (["a" * len(strip)],) * 2)
        for strip in ("a" * 8, "b" * 40):
            self.assertEqual(workshop.outs(strip), ["a" * len(strip)])
            self.assertIs(workshop.makes(strip, "a" * len(strip)), True)
            self.assertIs(workshop.makes(strip, "b" * len(strip)), False)
            self.fails(TooMany, {"most": 200}, workshop.played, strip)

    def test_the_whole(self):
        for workshop in (Workshop.of(ONE, MANY), Workshop.of(ONE, FLIP, MANY, CUT), Workshop.of(ONE, CUT, MANY)):
            strip = "a" * (8 + workshop.short)
            self.fails(TooMany, {"most": 200}, workshop.outs, strip)
            self.fails(TooMany, {"most": 200}, workshop.played, strip)
            self.assertEqual(len(workshop.outs(strip[1:])), 128)
            self.assertIs(workshop.makes(strip, "ab" * 4), True)
            self.assertIs(workshop.makes(strip, "ab" * 3), False)

    def test_just_two_hundred_strips(self):
        # The gates leave 128, 64 and 8 strips of the 256 that are made first, or 16 instead of 8.
        for last, many in (("aabbb.*", 200), ("aabb.*", None)):
            workshop = Workshop.of(ONE, MANY, Gate(ONE, "b.*|ab.*|" + last))
            if many is None:
                self.fails(TooMany, {"most": 200}, workshop.outs, "a" * 8)
            else:
                self.assertEqual(len(workshop.outs("a" * 8)), many)
            self.fails(TooMany, {"most": 200}, workshop.played, "a" * 8)
        twice = [FreePass(Paint(ONE, ["10"]), gap=2)] * 2
        for pattern, many in (("ab.*|..a.*", 200), (".b.*|.*a", 200), ("aa.*|...a.*", 201), ("ba.*|...a.*", 201)):
            for deeds in (twice + [Gate(ONE, pattern)], [Workshop(ONE, twice[:1]), twice[1], Gate(ONE, pattern)]):
                known = followed(deeds, "a" * 9)
                self.assertEqual(len(known), many)
                wanted = known if many == 200 else ("TooMany", 200)
                for workshop in (Workshop(ONE, deeds), Workshop.of(ONE, *deeds, Workshop(ONE, []))):
                    self.assertEqual((limited(workshop.outs, "a" * 9), limited(workshop.played, "a" * 9)), (wanted, wanted))

    def test_a_workshop_within_plays_each_strip_alone(self):
        # It makes at most 200 strips of one strip, but more of the two that are passed to it.
        inner = Workshop(ONE, [FreePass(Paint(ONE, ["10"]), gap=2)] * 2)
        ends = Workshop.of(ONE, Gate(ONE, "a*"), FreePass(Paint(ONE, ["10"]), gap=0), Gate(ONE, "a*|b*"))
        workshop = Workshop.of(ONE, ends, inner, FLAT)
        many = [len(followed([ends, inner], "a" * length)) for length in range(8)]
        most = [len(followed([inner], "a" * length)) for length in range(9)]
        self.assertGreater(max(many), 0)
        for length in range(8):
            self.assertLessEqual(most[length], 200)
            self.assertEqual(workshop.played("a" * length), ["a" * length])
        wide = Workshop(TWO, [FreePass(Paint(TWO, ["10", "01"]))] * 2)
        other = Workshop.of(TWO, FreePass(Paint(TWO, ["01", "10"])), wide, Pass(Paint(TWO, ["00", "00"]), Mask.every()))
        self.assertEqual(other.played("a" * 7), ["a" * 7])
        self.assertGreater(len(followed(other.deeds[:2], "a" * 7)), 200)
        self.assertEqual(len(wide.played("a" * 7)), 128)

    def test_many_strips_of_several(self):
        # The first 4 and the last 4 columns are painted at will: no deed makes more than 16 strips of one.
        front = Workshop.of(ONE, *[FreePass(Paint(ONE, ["10"]), gap=3)] * 2)
        several = Workshop.of(ONE, front, front)
        for strip in ("a" * 7, "a" * 10):
            known = followed([front, front], strip)
            self.assertEqual(limited(several.outs, strip), known if len(known) <= 200 else ("TooMany", 200))
            self.assertEqual(limited(several.played, strip), known if len(known) <= 200 else ("TooMany", 200))
        # All together make more than 200 strips on the way, but no deed makes so many of one strip.
        hidden = Workshop.of(ONE, FreePass(Paint(ONE, ["10"]), gap=3), FreePass(Paint(ONE, ["10"]), gap=3), FLAT)
        strip = "a" * 12
        self.assertGreater(len(followed(hidden.deeds[:2], strip)), 200)
        self.assertEqual((hidden.outs(strip), hidden.played(strip)), ([strip], [strip]))

    def test_a_workshop_within_on_the_way(self):
        # Neither deed makes more than 200 strips of one, but both together do.
        both = Workshop.of(ONE, FreePass(Paint(ONE, ["10"]), gap=3), FreePass(Paint(ONE, ["10"]), gap=3))
        strip = "a" * 12
        self.assertEqual(Workshop(ONE, both.deeds + [FLAT]).played(strip), [strip])
        workshop = Workshop.of(ONE, both, FLAT)
        self.assertEqual(workshop.outs(strip), [strip])
        self.fails(TooMany, {"most": 200}, workshop.played, strip)
        self.fails(TooMany, {"most": 200}, both.played, strip)

    def test_a_wrong_strip_comes_first(self):
        self.fails(BadStrip, {"text": "a" * 30 + "z"}, Workshop.of(ONE, MANY).played, "a" * 30 + "z")
        self.fails(BadStrip, {"text": "z"}, Workshop(ONE, []).played, "z")
        self.fails(BadStrip, {"text": "z"}, Workshop(ONE, []).outs, "z")
        self.fails(BadStrip, {"text": "y"}, Workshop(ONE, []).makes, "a", "y")


class KindsTest(Checked):
    def test_deeds_of_every_kind_one_after_the_other(self):
        rng = random.Random(1205)
        for scheme in SCHEMES[:3]:
            for kind in PLAIN_KINDS:
                deeds = [deed_of_kind(rng, scheme, kind), Mirror(scheme), random_deed(rng, scheme), Cut(scheme, 0, 1)]
                for order in (deeds, deeds[::-1]):
                    check_workshop(self, Workshop(scheme, order), SHORT[len(scheme)] - 1)


if __name__ == "__main__":
    unittest.main()
