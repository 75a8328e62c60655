"""Points 68 and 69: questions to deeds."""

import itertools
import random
import unittest

from galloon.bales import Bale
from galloon.errors import TooMany, UnlikeSchemes
from galloon.masks import Mask
from galloon.paints import Paint
from galloon.passes import FreePass, Gate, Pass, Stamp, Turn
from galloon.prints import FreePrint
from galloon.fonts import Font
from galloon.sameness import fewest, idle, lost, not_returned, same, swappable, unmade, unsure
from galloon.schemes import Scheme
from galloon.shapes import Cut, Mirror
from galloon.workshops import Workshop
from tests.helpers import ONE, SCHEMES, Checked, words
from tests.makers import (
    ALL_KINDS,
    SHORT,
    first_difference,
    in_order,
    made_of,
    random_bale,
    random_deed,
    table_of,
)

TWO = Scheme(2, 2)
EVERY = Bale.every(ONE)
SWAP = Pass(Paint(ONE, ["10"]), Mask.every())
FLAT = Pass(Paint(ONE, ["00"]), Mask.every())
STILL = Pass(Paint(ONE, ["01"]), Mask.every())
TURN, BACK, FLIP = Turn(ONE, 1), Turn(ONE, -1), Mirror(ONE)
FREE = FreePass(Paint(ONE, ["10"]))


def random_workshop(rng, scheme, most=4):
    return Workshop(scheme, [random_deed(rng, scheme, ALL_KINDS + ("mirror", "cut")) for _ in range(rng.randrange(most + 1))])


def cases(seed, many):
    """Random deeds of the smaller schemes, bales, and how long the strips are that are tried."""
    rng = random.Random(seed)
    for _ in range(many):
        scheme = rng.choice(SCHEMES[:3])
        yield rng, scheme, SHORT[len(scheme)], random_workshop(rng, scheme), random_bale(rng, scheme)


class SameTest(Checked):
    def agrees(self, found, known, most):
        """What was found is what trying short strips tells, as far as it does."""
        if known is None and found is not None:
            self.assertGreater(len(found[0]), most)
        else:
            self.assertEqual(found, known)

    def test_plain_trying(self):
        for rng, scheme, most, first, bale in cases(1300, 150):
            second = random_workshop(rng, scheme)
            if len(first) and rng.random() < 0.4:
                second = first.without(rng.randrange(len(first)))
            for one, other in ((first, second), (second, first), (first, Workshop.of(scheme, first))):
                self.agrees(same(one, other, bale), first_difference(one, other, bale, most), most)

    def test_long_strips_only(self):
        rng = random.Random(1303)
        found = 0
        for _ in range(250):
            first, bale = random_workshop(rng, ONE), random_bale(rng, ONE) & Bale.shaped(ONE, ".....+")
            second = first.without(rng.randrange(len(first))) if len(first) else Workshop(ONE, [])
            swapped = Workshop(ONE, [FLIP, *first.deeds[1:], random_deed(rng, ONE, ("mirror", "pass", "turn"))])
            for other in (second, swapped):
                known = first_difference(first, other, bale, 7)
                self.agrees(same(first, other, bale), known, 7)
                found += known is not None
        self.assertGreater(found, 80)

    def test_one_flips_and_the_bale_is_hard_to_read_backwards(self):
        # The column that must be b stands 14 places behind the first one: backwards, all sets of places come.
        bale = Bale.shaped(ONE, "..*") & Bale.showing(ONE, "b", 14) & ~Bale.shaped(ONE, "a*b")
        rng = random.Random(1304)
        table = [[rng.randrange(20) for _ in "ab"] for _ in range(20)]
        wild = Bale(ONE, table, [at == 7 for at in range(20)])
        still = Workshop.of(ONE, FLAT, Cut(ONE, 1, 1))
        for asked in (bale, wild, bale & wild):
            self.assertIsNone(same(still, Workshop.of(ONE, still, FLIP), asked))
            first = asked.first()
            found = same(Workshop.of(ONE, Gate(ONE, "a*b.*")), Workshop.of(ONE, FLIP, FLIP, FLIP), asked)
            self.assertTrue(found is not None and found[0] in asked and len(found[0]) >= len(first))
            plain = next(strip for strip in asked.strips(60) if strip != strip[::-1] or "b" not in strip)
            self.assertEqual(found[0], plain)

    def test_the_middle_column_is_read_and_not_written(self):
        for pattern in (".....", "......", ".......+", "a.b.a"):
            bale = Bale.shaped(ONE, pattern)
            for first, second in (
                (Workshop.of(ONE, Gate(ONE, "aab.*|aaaa.*"), SWAP, FLIP), Workshop.of(ONE, Gate(ONE, "aab.*"), SWAP, FLIP)),
                (Workshop.of(ONE, FLIP, Gate(ONE, "a*ba*")), Workshop.of(ONE, SWAP, Gate(ONE, "b*ab*"), SWAP)),
                (Workshop.of(ONE, FLIP, SWAP, Gate(ONE, "a*(ba)?b?a*")), Workshop.of(ONE, SWAP, Gate(ONE, "a*b?a*"))),
                (Workshop.of(ONE, FLIP, Stamp(ONE, "aa", "bb")), Workshop.of(ONE, Stamp(ONE, "aa", "bb"))),
                (Workshop.of(ONE, FLIP, SWAP, Cut(ONE, 1, 0)), Workshop.of(ONE, SWAP, Gate(ONE, "a*.?a*"), Cut(ONE, 0, 1))),
            ):
                known = first_difference(first, second, bale, 9)
                self.agrees(same(first, second, bale), known, 9)
                self.agrees(same(second, first, bale), known, 9)

    def test_deeds_that_are_no_workshops(self):
        rng = random.Random(1301)
        for _ in range(150):
            scheme = rng.choice(SCHEMES)
            first, second, bale = random_deed(rng, scheme), random_deed(rng, scheme), random_bale(rng, scheme)
            if len(scheme) > 4 and first.flips != second.flips:
                continue
            self.agrees(same(first, second, bale), first_difference(first, second, bale, SHORT[len(scheme)]), SHORT[len(scheme)])

    def test_different_numbers_of_columns_cut_off(self):
        for first, second, bale, known in (
            (Cut(ONE, 1, 0), Cut(ONE, 0, 1), EVERY, ("ab", "a")), (Cut(ONE, 1, 0), Cut(ONE, 1, 1), EVERY, ("a", "")),
            (Cut(ONE, 3, 0), Cut(ONE, 1, 1), EVERY, ("aa", "")), (Cut(ONE, 4, 4), STILL, EVERY, ("", "")),
            (Cut(ONE, 4, 4), Cut(ONE, 4, 3), Bale.listed(ONE, ["a" * 6]), None),
            (Cut(ONE, 4, 4), Cut(ONE, 4, 3), Bale.listed(ONE, ["a" * 6, "b" * 7]), ("b" * 7, "")),
            (Cut(ONE, 4, 4), Cut(ONE, 4, 3), Bale.listed(ONE, ["abababab"]), ("abababab", "")),
            (Workshop.of(ONE, FLIP, Cut(ONE, 2, 0)), Cut(ONE, 0, 1), EVERY, ("a", "")),
            (Workshop.of(ONE, Gate(ONE, "b+"), Cut(ONE, 2, 0)), Workshop.of(ONE, Gate(ONE, "a+"), Cut(ONE, 0, 1)),
             EVERY, ("a", "")),
            (Workshop.of(ONE, Gate(ONE, "bbb+"), Cut(ONE, 2, 0)), Workshop.of(ONE, Gate(ONE, "aaaa"), Cut(ONE, 0, 1)),
             EVERY, ("bbb", "b")),
        ):
            self.assertEqual(same(first, second, bale), known)
            self.assertEqual(same(second, first, bale), known)

    def test_none_where_frames_are_unlike(self):
        never = Workshop.of(ONE, Gate(ONE, "a"), Gate(ONE, "b"), Cut(ONE, 1, 0))
        self.assertIsNone(same(never, Workshop.of(ONE, Gate(ONE, "a"), Gate(ONE, "b")), EVERY))
        self.assertIsNone(same(never, FLIP, Bale.none(ONE)))
        self.assertIsNone(same(FLIP, STILL, Bale.listed(ONE, ["", "a", "aba", "abba", "bbbbbbbbb"])))
        self.assertEqual(same(FLIP, STILL, EVERY), ("ab", "ab"))

    def test_both_flip_or_neither(self):
        for first, second, known in (
            (Workshop.of(ONE, FLIP, TURN), Workshop.of(ONE, BACK, FLIP), None),
            (Workshop.of(ONE, FLIP, TURN), Workshop.of(ONE, TURN, FLIP), ("aab", "aab")),
            (Workshop.of(ONE, FLIP, TURN, FLIP), BACK, None), (Workshop.of(ONE, TURN, BACK), STILL, None),
            (Workshop.of(ONE, FLIP, FLIP), STILL, None), (Workshop.of(ONE, FLIP, FLIP, FLIP), FLIP, None),
            (Workshop.of(ONE, FLIP, Cut(ONE, 2, 1), FLIP), Cut(ONE, 1, 2), None),
        ):
            self.assertEqual(same(first, second, EVERY), known)

    def test_one_flips_and_the_strips_are_long(self):
        # What is mirrored differs first at a column near the middle, for even and for odd lengths.
        for scheme in (ONE, Scheme(1, 3), TWO):
            for half in (0, 1, 3, 6):
                for middle in ("", "a", "b", "ab", "ba", "aab", "bab", "baab", "abab"):
                    for strip in ("b" * half + middle + "b" * half, "a" * half + middle + "a" * half):
                        bale = Bale.listed(scheme, [strip])
                        known = None if strip == strip[::-1] else (strip, min(strip, strip[::-1]))
                        self.assertEqual(same(Mirror(scheme), Workshop(scheme, []), bale), known)
                        self.assertEqual(same(Workshop(scheme, []), Mirror(scheme), bale), known)

    def test_one_flips_and_only_long_strips_are_asked_about(self):
        for pattern, known in (
            ("aaaaaaab*", "aaaaaaab"), (".bbbb.bbbb.", "abbbbabbbbb"), ("bbbbb..bbbbb", "bbbbbabbbbbb"),
            ("aaaa.?a.aaaa", "aaaaabaaaa"), ("aaaaa.a.aaaa", "aaaaaaabaaaa"), ("a+b+a?", "ab"), ("b+a?b+a?b+", "babb"),
        ):
            bale = Bale.shaped(ONE, pattern)
            found = same(FLIP, STILL, bale)
            self.assertEqual(found, first_difference(FLIP, STILL, bale, 12))
            self.assertEqual(found[0], known)
        for pattern in ("a*", "ab*a", "(aba)*", "bbb(aaaa)*bbb", "a?", "aaaaa.aaaaa"):
            bale = Bale.shaped(ONE, pattern)
            self.assertIsNone(same(FLIP, STILL, bale))

    def test_one_flips_and_both_cut(self):
        rng = random.Random(1302)
        for _ in range(60):
            scheme = rng.choice(SCHEMES[:3])
            front, back = rng.randrange(3), rng.randrange(3)
            cut = Workshop.of(scheme, Cut(scheme, front, back), random_deed(rng, scheme, ("pass", "stamp", "free", "gate")))
            flipped = Workshop(scheme, [Mirror(scheme), Cut(scheme, back, front), cut.deeds[1]])
            bale = random_bale(rng, scheme)
            self.agrees(same(cut, flipped, bale), first_difference(cut, flipped, bale, SHORT[len(scheme)]), SHORT[len(scheme)])

    def test_what_is_made_of_palindromes(self):
        # Both gates leave strips that are equal to their mirrored strips, so it does not matter who flips.
        for pattern in ("a*", "ab*a", "(ba*b)|a", "a?b?a?"):
            first = Workshop.of(ONE, Gate(ONE, pattern), FLIP)
            known = first_difference(first, Gate(ONE, pattern), EVERY, 6)
            self.assertEqual(same(first, Gate(ONE, pattern), EVERY), known)
        self.assertIsNone(same(Workshop.of(ONE, Gate(ONE, "ab*a"), FLIP), Gate(ONE, "ab*a"), EVERY))
        free = Workshop.of(TWO, FreePass(Paint(TWO, ["10", "00"])), Mirror(TWO))
        other = Workshop.of(TWO, Mirror(TWO), FreePass(Paint(TWO, ["10", "00"])))
        self.assertIsNone(same(free, other, Bale.every(TWO)))
        self.assertEqual(same(free, FreePass(Paint(TWO, ["10", "00"])), Bale.every(TWO))[0], "ab")

    def test_very_many_strips_are_made(self):
        free = FreePass(Paint(ONE, ["10"]))
        twice = Workshop.of(ONE, free, free)
        self.assertIsNone(same(free, twice, EVERY))
        self.assertIsNone(same(free, Workshop.of(ONE, FLIP, free), EVERY))
        long = Bale.shaped(ONE, "(........)+")
        self.assertEqual(same(free, FreePass(Paint(ONE, ["10"]), gap=1), long), ("a" * 8, "a" * 6 + "bb"))
        font = Font(ONE, "", [("A", "a"), ("B", "b")])
        self.assertIsNone(same(FreePrint(font), free, EVERY))

    def test_unlike_schemes(self):
        other, every = Mirror(TWO), Bale.every(TWO)
        for call in (
            lambda: same(FLIP, other, EVERY), lambda: same(FLIP, FLIP, every), lambda: same(other, FLIP, every),
            lambda: unsure(FLIP, every), lambda: lost(FLIP, every), lambda: unmade(FLIP, every, EVERY),
            lambda: unmade(FLIP, EVERY, every), lambda: unmade(other, EVERY, EVERY), lambda: not_returned(FLIP, every),
            lambda: idle(Workshop(ONE, []), every), lambda: swappable(Workshop(ONE, []), every),
            lambda: fewest(Workshop(ONE, []), every), lambda: fewest(Workshop(ONE, [FLIP] * 8), every),
        ):
            self.fails(UnlikeSchemes, {}, call)


class UnsureTest(Checked):
    def test_plain_trying(self):
        for _, _, most, deed, bale in cases(1310, 120):
            made = table_of(deed, most)
            known = next(((x, *made[x][:2]) for x in made if x in bale and len(made[x]) > 1), None)
            found = unsure(deed, bale)
            if known is None and found is not None:
                self.assertGreater(len(found[0]), most)
                self.assertEqual(found[1:], tuple(made_of(deed, found[0])[:2]))
            else:
                self.assertEqual(found, known)

    def test_known(self):
        self.assertIsNone(unsure(FLIP, EVERY))
        self.assertEqual(unsure(FREE, EVERY), ("a", "a", "b"))
        self.assertEqual(unsure(Workshop.of(ONE, Gate(ONE, "ab*"), FREE, FLIP), EVERY), ("a", "a", "b"))
        self.assertEqual(unsure(Workshop.of(ONE, Gate(ONE, "abb*"), FREE, FLIP), EVERY), ("ab", "aa", "ab"))
        self.assertIsNone(unsure(FREE, Bale.listed(ONE, [""])))
        self.assertIsNone(unsure(Workshop.of(ONE, FREE, FLAT), EVERY))
        # The order of the finished strips counts, not that of those that the loom says.
        font = Font(ONE, "", [("A", "aab"), ("B", "abb")])
        self.assertEqual(unsure(Workshop.of(ONE, FreePrint(font), FLIP), EVERY), ("aaa", "baa", "bba"))


class LostTest(Checked):
    def test_plain_trying(self):
        for _, scheme, most, deed, bale in cases(1320, 120):
            sources = {}
            for strip, outs in table_of(deed, most).items():
                for out in outs if strip in bale else []:
                    sources.setdefault(out, []).append(strip)
            shared = in_order([out for out in sources if len(sources[out]) > 1])
            found = lost(deed, bale)
            known = (shared[0], *sources[shared[0]][:2]) if shared else None
            if found is not None and len(found[1]) > most:
                self.assertTrue(not shared or len(found[0]) > len(shared[0]))
                self.assertTrue(all(found[0] in made_of(deed, strip) and strip in bale for strip in found[1:]))
            else:
                self.assertEqual(found, known)

    def test_known(self):
        self.assertIsNone(lost(FLIP, EVERY))
        self.assertEqual(lost(Cut(ONE, 1, 0), EVERY), ("", "a", "b"))
        self.assertEqual(lost(FLAT, EVERY), ("a", "a", "b"))
        self.assertEqual(lost(FLAT, Bale.shaped(ONE, "a*b")), None)
        self.assertEqual(lost(Workshop.of(ONE, Cut(ONE, 0, 1), FLIP), Bale.shaped(ONE, "b..")), ("ab", "baa", "bab"))
        self.assertIsNone(lost(FLAT, Bale.none(ONE)))

    def test_the_first_strip_is_not_made_of_the_first_ones(self):
        # 'aa' is made of 'bb' and 'ba' only, while 'bb' is made of the first strips.
        deed = Workshop.of(ONE, SWAP, Stamp(ONE, "ba", "bb"))
        self.assertEqual(lost(deed, EVERY), ("bb", "aa", "ab"))
        later = Workshop.of(ONE, SWAP, Stamp(ONE, "ab", "aa"))
        self.assertEqual(lost(later, EVERY), ("aa", "ba", "bb"))
        self.assertEqual(later.outs("aa"), ["bb"])

    def test_the_order_of_finished_strips(self):
        # Of 'ab' and 'ba' the loom says 'ba' first, but mirrored it comes later.
        deed = Workshop.of(ONE, Gate(ONE, "ab.|ba."), Cut(ONE, 0, 1), FLIP)
        self.assertEqual(lost(deed, EVERY), ("ab", "baa", "bab"))


class UnmadeTest(Checked):
    def test_plain_trying(self):
        for rng, scheme, most, deed, bale in cases(1330, 120):
            wanted = random_bale(rng, scheme)
            made = {out for strip, outs in table_of(deed, most).items() if strip in bale for out in outs}
            asked = [strip for strip in words(scheme, most - deed.short) if strip in wanted and strip not in made]
            found = unmade(deed, bale, wanted)
            if not asked and found is not None:
                self.assertGreater(len(found), most - deed.short)
                self.assertTrue(found in wanted and found not in deed.image(bale))
            else:
                self.assertEqual(found, asked[0] if asked else None)

    def test_known(self):
        self.assertIsNone(unmade(FLIP, EVERY, EVERY))
        self.assertEqual(unmade(FLAT, EVERY, EVERY), "b")
        self.assertEqual(unmade(FLIP, Bale.shaped(ONE, "ab*"), Bale.shaped(ONE, "ab*")), "ab")
        self.assertEqual(unmade(Cut(ONE, 1, 1), Bale.shaped(ONE, "ab*a"), EVERY), "a")
        self.assertIsNone(unmade(Cut(ONE, 1, 1), Bale.shaped(ONE, "ab*a"), Bale.shaped(ONE, "b*")))
        self.assertEqual(unmade(FLIP, Bale.none(ONE), Bale.shaped(ONE, "bb|ba")), "ba")
        self.assertIsNone(unmade(FLIP, Bale.none(ONE), Bale.none(ONE)))


class NotReturnedTest(Checked):
    def test_plain_trying(self):
        for rng, scheme, most, deed, bale in cases(1340, 120):
            made = table_of(deed, most)
            known = next((strip for strip in made if strip in bale and made[strip] != [strip]), None)
            found = not_returned(deed, bale)
            if known is None and found is not None:
                self.assertGreater(len(found), most)
                self.assertNotEqual(made_of(deed, found), [found])
            else:
                self.assertEqual(found, known)

    def test_known(self):
        self.assertIsNone(not_returned(Workshop.of(ONE, TURN, BACK), EVERY))
        self.assertEqual(not_returned(FLIP, EVERY), "ab")
        self.assertEqual(not_returned(Cut(ONE, 0, 1), EVERY), "")
        self.assertEqual(not_returned(Cut(ONE, 0, 1), Bale.shaped(ONE, "bb*")), "b")
        self.assertEqual(not_returned(FREE, EVERY), "a")
        self.assertEqual(not_returned(Gate(ONE, "a*"), EVERY), "b")
        self.assertIsNone(not_returned(Gate(ONE, "a*"), Bale.shaped(ONE, "a*")))
        self.assertIsNone(not_returned(FLIP, Bale.none(ONE)))


class WorkshopQuestionsTest(Checked):
    def checked(self, workshop, bale, most):
        """All three functions, as far as short strips tell; the workshops are such that they do."""
        scheme, deeds = workshop.scheme, workshop.deeds
        made = {strip: made_of(workshop, strip) for strip in words(scheme, most) if strip in bale}

        def is_same(others):
            other = Workshop(scheme, others)
            return all(made_of(other, strip) == made[strip] for strip in made)
        places = range(len(deeds))
        self.assertEqual(idle(workshop, bale), [at for at in places if is_same(deeds[:at] + deeds[at + 1:])])
        swapped = [deeds[:at] + [deeds[at + 1], deeds[at]] + deeds[at + 2:] for at in places[:-1]]
        self.assertEqual(swappable(workshop, bale), [at for at, others in enumerate(swapped) if is_same(others)])
        if len(deeds) <= 5:
            lists = [list(part) for size in range(len(deeds) + 1) for part in itertools.combinations(places, size)]
            known = next(part for part in lists if is_same([deeds[at] for at in part]))
            self.assertEqual(fewest(workshop, bale), known)

    def test_plain_trying(self):
        rng = random.Random(1350)
        kinds = ("pass", "stamp", "turn", "mirror", "gate", "cut", "once", "free")
        for _ in range(50):
            scheme = rng.choice(SCHEMES[:3])
            deeds = [random_deed(rng, scheme, kinds) for _ in range(3)]
            workshop = Workshop(scheme, [rng.choice(deeds) for _ in range(rng.randrange(6))])
            # Only short strips are asked about.
            bale = random_bale(rng, scheme) & Bale.shaped(scheme, ".?.?.?.?.?.?"[:2 * SHORT[len(scheme)]])
            self.checked(workshop, bale, SHORT[len(scheme)])

    def test_infinite_bales(self):
        for deeds, known in (
            ([], ([], [], [])), ([FLIP], ([], [], [0])), ([STILL], ([0], [], [])), ([FLIP, FLIP], ([], [0], [])),
            ([SWAP, SWAP, SWAP], ([], [0, 1], [0])), ([TURN, BACK, TURN], ([], [0, 1], [0])),
            ([FLAT, SWAP, FLAT], ([0, 1], [0], [0])), ([FLAT, FLAT], ([0, 1], [0], [0])),
            ([FLIP, TURN, FLIP], ([], [], [0, 1, 2])), ([FLIP, SWAP, FLIP], ([], [0, 1], [1])),
            ([FLAT, FREE, FLAT, FLIP], ([0, 1, 3], [0, 2], [0])), ([STILL, FLAT, STILL, FLAT, FLIP], ([0, 1, 2, 3, 4], [0, 1, 2, 3], [1])),
        ):
            workshop = Workshop(ONE, deeds)
            found = (idle(workshop, EVERY), swappable(workshop, EVERY), fewest(workshop, EVERY))
            self.assertEqual(found, known, str(workshop))
            self.checked(workshop, EVERY, 6)

    def test_several_shortest_answers(self):
        self.assertEqual(fewest(Workshop.of(ONE, SWAP, FLIP, SWAP, FLIP, SWAP), EVERY), [0])
        self.assertEqual(fewest(Workshop.of(ONE, SWAP, FLIP, FLIP, FLIP, SWAP), EVERY), [1])
        self.assertEqual(fewest(Workshop.of(ONE, FLIP, SWAP, TURN, SWAP, TURN), EVERY), [0, 2, 4])
        self.assertEqual(fewest(Workshop.of(ONE, Cut(ONE, 1, 0), Cut(ONE, 0, 1), Cut(ONE, 1, 0)), EVERY), [0, 1, 2])

    def test_too_many_deeds_for_fewest(self):
        self.assertEqual(fewest(Workshop(ONE, [TURN, BACK] * 2 + [TURN]), EVERY), [0])
        for many in (6, 7, 8):
            workshop = Workshop(ONE, [STILL] * many)
            self.fails(TooMany, {"most": 5}, fewest, workshop, EVERY)
            self.fails(TooMany, {"most": 5}, fewest, workshop, Bale.none(ONE))
            self.assertEqual(idle(workshop, EVERY), list(range(many)))
            self.assertEqual(swappable(workshop, EVERY), list(range(many - 1)))

    def test_bales_without_strips(self):
        workshop = Workshop.of(ONE, FLIP, Cut(ONE, 1, 0), FREE)
        none = Bale.none(ONE)
        self.assertEqual((idle(workshop, none), swappable(workshop, none), fewest(workshop, none)), ([0, 1, 2], [0, 1], []))


if __name__ == "__main__":
    unittest.main()
