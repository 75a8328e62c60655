"""Points 70 and 71: folds, and strips that are equal to their mirrored strips."""

import random
import unittest

from galloon.bales import Bale
from galloon.errors import BadScheme, BadStrip, NoFold, UnlikeSchemes
from galloon.folds import fold, fold_bale, folded_scheme, folding_onto, symmetric, unfold
from galloon.schemes import Scheme
from tests.helpers import ONE, SCHEMES, Checked, check_least_bale, members, random_rows, words
from tests.makers import in_order

THREE = Scheme(1, 3)
FOLDED = Scheme(2, 2)
MOST = {2: 8, 3: 6, 4: 5, 8: 3, 9: 3}


def plain_fold(scheme, strip):
    """The fold, column by column, from the two ends."""
    many = scheme.colours
    pairs = [(ord(front) - 97, ord(back) - 97) for front, back in zip(strip, reversed(strip))]
    return "".join(chr(97 + top * many + low) for top, low in pairs[:len(strip) // 2])


class FoldTest(Checked):
    def test_all_short_strips(self):
        for scheme in (ONE, THREE):
            folded = folded_scheme(scheme)
            self.assertEqual(folded, Scheme(2, scheme.colours))
            for strip in words(scheme, 8 if scheme == ONE else 6):
                if len(strip) % 2 == 0:
                    found = fold(scheme, strip)
                    self.assertEqual(found, plain_fold(scheme, strip))
                    self.assertEqual(unfold(scheme, found), strip)
                    top, low = folded.picture(found)
                    self.assertEqual(top + low[::-1], scheme.picture(strip)[0])
            for strip in words(folded, 3):
                self.assertEqual(fold(scheme, unfold(scheme, strip)), strip)

    def test_known(self):
        self.assertEqual((fold(ONE, ""), unfold(ONE, ""), fold(ONE, "ab"), fold(ONE, "ba")), ("", "", "b", "c"))
        self.assertEqual((fold(ONE, "abbb"), unfold(ONE, "bd"), fold(THREE, "cb"), unfold(THREE, "h")), ("bd", "abbb", "h", "cb"))
        self.assertEqual(fold(ONE, "ab" * 20), "bc" * 10)

    def test_odd_lengths(self):
        for length in (1, 3, 5, 39):
            self.fails(NoFold, {"length": length}, fold, ONE, "b" * length)

    def test_wrong_strips(self):
        for text in ("c", "cc", "aab?", "abd", "A"):
            self.fails(BadStrip, {"text": text}, fold, ONE, text)
        self.assertEqual(unfold(ONE, "d"), "bb")
        for text in ("e", "dde", "?"):
            self.fails(BadStrip, {"text": text}, unfold, ONE, text)
        self.assertEqual(unfold(THREE, "i"), "cc")
        self.fails(BadStrip, {"text": "j"}, unfold, THREE, "j")

    def test_schemes_of_several_rows_come_before_all_other_errors(self):
        for scheme in (FOLDED, Scheme(3, 2), Scheme(2, 3)):
            every = Bale.every(scheme)
            told = {"part": "size"}
            self.fails(BadScheme, told, folded_scheme, scheme)
            for text in ("", "a", "?", "aa"):
                self.fails(BadScheme, told, fold, scheme, text)
                self.fails(BadScheme, told, unfold, scheme, text)
            self.fails(BadScheme, told, fold_bale, every)
            for other in SCHEMES:
                self.fails(BadScheme, told, folding_onto, every, Bale.every(other))


class FoldBaleTest(Checked):
    def test_plain_trying(self):
        rng = random.Random(1400)
        for _ in range(120):
            scheme = rng.choice((ONE, THREE))
            bale = Bale(scheme, *random_rows(rng, scheme, rng.randint(1, 5), 0.3))
            found = fold_bale(bale)
            self.assertEqual(found.scheme, folded_scheme(scheme))
            check_least_bale(self, found)
            most = MOST[len(scheme)] // 2
            known = [fold(scheme, strip) for strip in members(bale, 2 * most) if len(strip) % 2 == 0]
            self.assertEqual(members(found, most), in_order(known))

    def test_known(self):
        self.assertEqual(fold_bale(Bale.every(ONE)), Bale.every(FOLDED))
        self.assertEqual(fold_bale(Bale.none(ONE)), Bale.none(FOLDED))
        self.assertEqual(fold_bale(Bale.shaped(ONE, "(..)*.")), Bale.none(FOLDED))
        self.assertEqual(fold_bale(Bale.shaped(ONE, "a*b*")), Bale.shaped(FOLDED, "b*a*|b*d*"))
        self.assertEqual(fold_bale(Bale.listed(ONE, ["", "a", "ab", "bbb"])), Bale.listed(FOLDED, ["", "b"]))


class FoldingOntoTest(Checked):
    def test_plain_trying(self):
        rng = random.Random(1401)
        for _ in range(200):
            scheme = rng.choice((ONE, THREE))
            bale = Bale(scheme, *random_rows(rng, scheme, rng.randint(1, 5), 0.3))
            folded = Bale(folded_scheme(scheme), *random_rows(rng, folded_scheme(scheme), rng.randint(1, 4), 0.3))
            most = MOST[len(scheme)]
            known = [strip for strip in members(bale, most) if len(strip) % 2 == 0 and fold(scheme, strip) in folded]
            found = folding_onto(bale, folded)
            if not known and found is not None:
                self.assertGreater(len(found), most)
                self.assertTrue(found in bale and fold(scheme, found) in folded)
            else:
                self.assertEqual(found, known[0] if known else None)

    def test_known(self):
        every = Bale.every(ONE)
        for folded, known in (
            ("", ""), ("b", "ab"), ("c|b", "ab"), ("[bc]d", "abbb"), ("cc|bd|db", "abbb"), ("..d", "aabbaa"), ("00*11", "ab"),
        ):
            self.assertEqual(folding_onto(every, Bale.shaped(FOLDED, folded)), known)
        self.assertIsNone(folding_onto(Bale.shaped(ONE, "(..)*."), Bale.every(FOLDED)))
        self.assertIsNone(folding_onto(every, Bale.none(FOLDED)))
        self.assertIsNone(folding_onto(Bale.none(ONE), Bale.every(FOLDED)))
        self.assertIsNone(folding_onto(Bale.shaped(ONE, "ab*"), Bale.shaped(FOLDED, "[cd].*")))
        self.assertEqual(folding_onto(Bale.shaped(ONE, "bb*"), Bale.every(FOLDED)), "bb")
        # The strip counts, not its fold: 'abbbba' has the later fold.
        self.assertEqual(folding_onto(every, Bale.listed(FOLDED, ["bdc", "cab"])), unfold(ONE, "bdc"))

    def test_long_answers(self):
        bale = Bale.shaped(ONE, "a*baaaaaab*") & Bale.shaped(ONE, "(....)*")
        folded = Bale.shaped(FOLDED, "b*[ac]d?[ab]*")
        known = [strip for strip in members(bale, 16) if len(strip) % 2 == 0 and fold(ONE, strip) in folded]
        self.assertEqual(folding_onto(bale, folded), known[0])

    def test_unlike_schemes(self):
        for scheme, other in ((ONE, ONE), (ONE, Scheme(2, 3)), (THREE, FOLDED), (THREE, Scheme(3, 2))):
            self.fails(UnlikeSchemes, {}, folding_onto, Bale.every(scheme), Bale.every(other))
            self.fails(UnlikeSchemes, {}, folding_onto, Bale.none(scheme), Bale.none(other))


class SymmetricTest(Checked):
    def test_plain_trying(self):
        rng = random.Random(1402)
        for at in range(600):
            scheme = SCHEMES[at % 5] if at < 300 else ONE
            bale = Bale(scheme, *random_rows(rng, scheme, rng.randint(1, 6), 0.5)) - Bale.listed(scheme, ["", "a"][:at % 3])
            known = [strip for strip in members(bale, MOST[len(scheme)]) if strip == strip[::-1]]
            found = symmetric(bale)
            if not known and found is not None:
                self.assertGreater(len(found), MOST[len(scheme)])
                self.assertTrue(found in bale and found == found[::-1])
            else:
                self.assertEqual(found, known[0] if known else None)

    def test_known(self):
        for pattern, known in (
            ("", ""), (".*", ""), ("..*", "a"), ("b.*", "b"), ("ab.*", "aba"), ("ab*", "a"), ("abb*", None),
            ("ab..*ba", "ababa"), ("baab|bbab|abba", "abba"), ("ab.*b.", "abba"), ("a+b+", None), ("(ab)*", ""), ("(ab)+", None),
            ("aab..*", "aabaa"), ("(abb)(abb)*.?.?", "abba"), ("(bab)+.?", "bab"),
        ):
            self.assertEqual(symmetric(Bale.shaped(ONE, pattern)), known, pattern)
        self.assertIsNone(symmetric(Bale.none(ONE)))
        # The middle column leads back to the beginning of the table.
        self.assertEqual(symmetric(Bale.shaped(THREE, "(abc)*ba")), "abcba")
        self.assertEqual(symmetric(Bale.shaped(THREE, "(aabc)*baa")), "aabcbaa")


if __name__ == "__main__":
    unittest.main()
