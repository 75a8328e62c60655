"""Points 35 and 36: passes, free passes, stamps, borders, gates and turns."""

import itertools
import random

from galloon.bales import Bale
from galloon.deeds import Deed
from galloon.errors import BadCount, BadPattern, BadStamp, BadStrip, BadTurn, TooMany
from galloon.masks import Mask
from galloon.paints import Paint
from galloon.passes import Border, FreePass, Gate, Pass, Stamp, Turn
from galloon.schemes import Scheme
from tests.deed_checks import check_deed
from tests.helpers import ONE, SCHEMES, Checked, words
from tests.test_masks import random_mask
from tests.test_patterns import as_regex, random_pattern

TWO = Scheme(2, 2)
THREE = Scheme(1, 3)


def random_paint(rng, scheme):
    digits = "012"[:scheme.colours]
    return Paint(scheme, ["".join(rng.choice(digits) for _ in digits) for _ in range(scheme.rows)])


def random_strip(rng, scheme, least, most):
    return "".join(rng.choice(scheme.columns) for _ in range(rng.randint(least, most)))


def painted(paint, strip, places):
    """The strip with the columns at some places painted."""
    return "".join(paint(column) if at in places else column for at, column in enumerate(strip))


def free_sets(length, gap):
    """All sets of indexes between any two of which at least `gap` others stand."""
    for marks in itertools.product((False, True), repeat=length):
        places = [at for at in range(length) if marks[at]]
        if all(other - one > gap for one, other in zip(places, places[1:])):
            yield set(places)


def scanned(strip, old, new):
    """The scan of a stamp, as the document tells it."""
    out, at = "", 0
    while at < len(strip):
        if strip.startswith(old, at):
            out, at = out + new, at + len(old)
        else:
            out, at = out + strip[at], at + 1
    return out


class PassTest(Checked):
    def test_plain_trying(self):
        rng = random.Random(700)
        for scheme in SCHEMES:
            for _ in range(12):
                paint, mask = random_paint(rng, scheme), random_mask(rng, 4)
                check_deed(self, Pass(paint, mask), lambda strip: [
                    painted(paint, strip, {at for at in range(len(strip)) if mask[at]})
                ])

    def test_long_masks(self):
        paint = Paint(ONE, ["10"])
        mask = Mask("+-----", "--+-+-") ^ Mask("", "++--+") ^ Mask("---", "+--+")
        deed = Pass(paint, mask)
        for strip in ("a" * 40, "ab" * 20, "bba" * 13, ""):
            known = [painted(paint, strip, {at for at in range(len(strip)) if mask[at]})]
            self.assertEqual(deed.outs(strip), known)
            self.assertEqual(deed.played(strip), known)

    def test_attributes(self):
        paint, mask = Paint(TWO, ["10", "01"]), Mask.read("-(+-)")
        deed = Pass(paint, mask)
        self.assertIs(deed.paint, paint)
        self.assertTrue(deed.mask == mask)
        self.assertEqual((deed.scheme, deed.KIND, Pass.KIND), (TWO, "pass", "pass"))
        self.assertIsInstance(deed, Deed)
        self.assertEqual(deed.outs("abcd"), ["adcb"])
        self.assertEqual(Pass(paint, Mask.none()).outs("abcd"), ["abcd"])
        self.assertEqual(Pass(paint, Mask.every()).outs("abcd"), ["cdab"])


class FreePassTest(Checked):
    def test_plain_trying(self):
        rng = random.Random(701)
        for scheme in SCHEMES:
            for gap in range(4):
                for _ in range(3):
                    paint = random_paint(rng, scheme)
                    check_deed(self, FreePass(paint, gap=gap), lambda strip: [
                        painted(paint, strip, places) for places in free_sets(len(strip), gap)
                    ])

    def test_each_gap_on_longer_strips(self):
        paint = Paint(ONE, ["11"])
        for gap, many in enumerate((512, 89, 41, 26)):
            deed = FreePass(paint, gap=gap)
            self.assertEqual(deed.loom().count_outs("a" * 9), many)
            if many > 200:
                self.fails(TooMany, {"most": 200}, deed.outs, "a" * 9)
                self.fails(TooMany, {"most": 200}, deed.played, "a" * 9)
            else:
                known = sorted({painted(paint, "a" * 9, places) for places in free_sets(9, gap)})
                self.assertEqual(deed.outs("a" * 9), known)
                self.assertEqual(deed.played("a" * 9), known)

    def test_just_200_and_above(self):
        # 8 * 5 * 5 ways beside columns that the paint does not change, and 8 * 8 * 5.
        deed = FreePass(Paint(ONE, ["11"]), gap=1)
        for strip, many in (("aaaabaaabaaa", 200), ("aaaabaaaabaaa", 320), ("aaabaaabaaab", 125)):
            found = sorted({painted(deed.paint, strip, places) for places in free_sets(len(strip), 1)})
            self.assertEqual(len(found), many)
            for call in (deed.outs, deed.played):
                if many > 200:
                    self.fails(TooMany, {"most": 200}, call, strip)
                else:
                    self.assertEqual(call(strip), found)
            for after in found:
                self.assertIs(deed.makes(strip, after), True)
            self.assertIs(deed.makes(strip, "b" * len(strip)), False)

    def test_long_strips(self):
        deed = FreePass(Paint(ONE, ["11"]), gap=0)
        for call in (deed.outs, deed.played):
            self.fails(TooMany, {"most": 200}, call, "a" * 40)
            self.assertEqual(call("b" * 40), ["b" * 40])
            self.assertEqual(len(call("b" * 33 + "a" * 7)), 128)
            self.fails(BadStrip, {"text": "a" * 40 + "c"}, call, "a" * 40 + "c")
        self.assertIs(deed.makes("a" * 40, "ab" * 20), True)

    def test_a_paint_that_changes_nothing_leaves_all_free(self):
        # Painting the columns at 0 and 2 with a gap of 1; the middle one cannot be painted then.
        deed = FreePass(Paint(THREE, ["112"]), gap=1)
        for call in (deed.outs, deed.played):
            self.assertEqual(call("aba"), ["aba", "abb", "bba", "bbb"])
            self.assertEqual(call("aa"), ["aa", "ab", "ba"])

    def test_attributes_and_errors(self):
        paint = Paint(ONE, ["10"])
        for gap in range(4):
            deed = FreePass(paint, gap=gap)
            self.assertEqual((deed.gap, deed.KIND), (gap, "free"))
            self.assertIs(deed.paint, paint)
            self.assertTrue(deed.mask == Mask.every())
            self.assertIsInstance(deed, Pass)
        self.assertEqual(FreePass(paint).gap, 0)
        for gap in (-1, 4, -(10 ** 30), 10 ** 30):
            self.fails(BadCount, {"count": gap}, FreePass, paint, gap=gap)
        with self.assertRaises(TypeError):
            FreePass(paint, 1)


class StampTest(Checked):
    def test_plain_trying(self):
        rng = random.Random(702)
        for scheme in SCHEMES:
            for _ in range(14):
                old = random_strip(rng, scheme, 1, 4)
                new = random_strip(rng, scheme, len(old), len(old))
                check_deed(self, Stamp(scheme, old, new), lambda strip: [scanned(strip, old, new)])

    def test_all_stamps_of_two_columns(self):
        strips = words(ONE, 8)
        for old in words(ONE, 4)[1:]:
            for new in ("a" * len(old), old[::-1], old[1:] + old[0], "b" + old[1:]):
                deed = Stamp(ONE, old, new)
                loom = deed.loom()
                for strip in strips:
                    known = scanned(strip, old, new)
                    self.assertEqual(loom.outs(strip), [known])
                    self.assertEqual(deed.played(strip), [known])

    def test_overlapping_and_holding(self):
        for old, new, strip, out in (
            ("aa", "ba", "aaaaa", "babaa"), ("aba", "bab", "ababa", "babba"), ("ab", "ab", "abab", "abab"),
            ("aab", "baa", "aaab", "abaa"), ("ab", "ba", "aabb", "abab"), ("a", "b", "aba", "bbb"),
            ("abab", "aaab", "ababab", "aaabab"), ("bb", "ab", "bbb", "abb"),
        ):
            deed = Stamp(ONE, old, new)
            self.assertEqual((deed.outs(strip), deed.played(strip)), ([out], [out]))

    def test_attributes_and_errors(self):
        deed = Stamp(TWO, "ad", "bc")
        self.assertEqual((deed.old, deed.new, deed.scheme, deed.KIND), ("ad", "bc", TWO, "stamp"))
        for old in ("", "abcda", "e", "a b", "A", "aae"):
            for new in ("", "ab", "zz"):
                self.fails(BadStamp, {"part": "old"}, Stamp, TWO, old, new)
        for new in ("", "a", "abc", "ae", "A!"):
            self.fails(BadStamp, {"part": "new"}, Stamp, TWO, "ab", new)
        self.assertEqual(Stamp(TWO, "abcd", "dcba").outs("abcda"), ["dcbaa"])


class BorderTest(Checked):
    def test_plain_trying(self):
        rng = random.Random(703)
        for scheme in SCHEMES:
            for _ in range(10):
                front, back = random_strip(rng, scheme, 0, 3), random_strip(rng, scheme, 0, 3)

                def plain(strip):
                    if len(strip) < len(front) + len(back):
                        return []
                    return [front + strip[len(front):len(strip) - len(back)] + back]
                check_deed(self, Border(scheme, front, back), plain)

    def test_known_borders(self):
        for front, back, strip, outs in (
            ("", "", "", [""]), ("", "", "ab", ["ab"]), ("a", "", "", []), ("", "a", "", []), ("b", "b", "a", []),
            ("b", "b", "aa", ["bb"]), ("bb", "bb", "aaa", []), ("bbbb", "abab", "a" * 8, ["bbbbabab"]),
            ("bbbb", "abab", "a" * 7, []), ("bbbb", "abab", "a" * 9, ["bbbbaabab"]), ("", "ba", "aaa", ["aba"]),
            ("ba", "", "bbb", ["bab"]),
        ):
            deed = Border(ONE, front, back)
            self.assertEqual((deed.outs(strip), deed.played(strip)), (outs, outs))

    def test_attributes_and_errors(self):
        deed = Border(TWO, "ad", "")
        self.assertEqual((deed.front, deed.back, deed.scheme, deed.KIND), ("ad", "", TWO, "border"))
        for front in ("abcda", "e", " ", "abE"):
            for back in ("", "x", "aaaaa"):
                self.fails(BadStamp, {"part": "front"}, Border, TWO, front, back)
        for back in ("abcda", "e", "-"):
            self.fails(BadStamp, {"part": "back"}, Border, TWO, "", back)
        self.assertEqual(Border(TWO, "abcd", "dcba").outs("a" * 8), ["abcddcba"])


class GateTest(Checked):
    def test_plain_trying(self):
        rng = random.Random(704)
        for scheme in SCHEMES:
            for _ in range(20):
                # Python's own regular expressions take long for many nested repeats.
                pattern = random_pattern(rng, scheme, 0, [7])
                regex = as_regex(scheme, pattern)
                most = 5 if scheme == ONE else None
                check_deed(self, Gate(scheme, pattern), lambda strip: [strip] if regex.fullmatch(strip) else [], most)

    def test_chosen_patterns(self):
        chosen = [
            "", "a*b", "(aa)*", "(a|b)*a", "((a+)?b)+", "(a|)(b|)", "a?a?a?aaa", "(ab|ba)*", "((a*)*)*", "(a?)+",
            "00*01*", "[ab]*a..", "(.(.(.)?)?)?", "a+|b+|", "()+", "(|)*", "((())?)*", "|", "(a|aa)+b?", "(a*|b)+",
        ]
        for pattern in chosen:
            regex = as_regex(ONE, pattern)
            deed = Gate(ONE, pattern)
            for strip in words(ONE, 7):
                known = [strip] if regex.fullmatch(strip) else []
                self.assertEqual((deed.played(strip), deed.outs(strip)), (known, known), (pattern, strip))

    def test_long_strips(self):
        deed = Gate(ONE, "((a?)*b(a|b)*)+.?.?.?")
        self.assertEqual(deed.played("a" * 39 + "b"), ["a" * 39 + "b"])
        self.assertEqual(deed.played("a" * 40), [])
        self.assertEqual(deed.outs("a" * 40), [])

    def test_attributes_and_errors(self):
        deed = Gate(TWO, "01*")
        self.assertEqual((deed.pattern, deed.scheme, deed.KIND), ("01*", TWO, "gate"))
        self.assertTrue(deed.image(Bale.every(TWO)) == Bale.shaped(TWO, "01*"))
        for pattern, place in (("a**", 2), ("*a", 0), ("(a", 2), ("[ba]", 2), ("e", 0), ("2", 0), ("-", 0)):
            self.fails(BadPattern, {"place": place}, Gate, TWO, pattern)


class TurnTest(Checked):
    def test_plain_trying(self):
        for scheme in SCHEMES:
            for by in (-1, 0, 1):
                check_deed(self, Turn(scheme, by), lambda strip: [strip[by:] + strip[:by]])

    def test_known_turns(self):
        for by, strip, out in (
            (1, "", ""), (1, "b", "b"), (1, "ab", "ba"), (1, "abb", "bba"), (-1, "abb", "bab"), (-1, "", ""),
            (-1, "b", "b"), (0, "abb", "abb"), (0, "", ""),
        ):
            deed = Turn(ONE, by)
            self.assertEqual((deed.outs(strip), deed.played(strip)), ([out], [out]))

    def test_attributes_and_errors(self):
        for by in (-1, 0, 1):
            deed = Turn(TWO, by)
            self.assertEqual((deed.by, deed.scheme, deed.KIND), (by, TWO, "turn"))
        for by in (-2, 2, 10 ** 30, -(10 ** 30)):
            self.fails(BadTurn, {"by": by}, Turn, TWO, by)
