"""Points 85 and 86: written deeds and workshops, and how they are read."""

import random
import unittest

from galloon.errors import (
    BadClause,
    BadCount,
    BadDeed,
    BadFont,
    BadGlyph,
    BadIndex,
    BadLetter,
    BadMask,
    BadPaint,
    BadPattern,
    BadRow,
    BadRule,
    BadStamp,
    BadWorkshop,
    DuplicateLetter,
    GalloonError,
    NoDrift,
    TooMany,
    UnequalFonts,
    UnknownLetter,
)
from galloon.fonts import Font
from galloon.masks import Mask
from galloon.mends import Once, Rest, Sweep
from galloon.notes import read_deed, read_workshop
from galloon.paints import Paint
from galloon.passes import Border, FreePass, Gate, Pass, Stamp, Turn
from galloon.prints import FreePrint, Overprint, Recast
from galloon.rules import Rule
from galloon.schemes import Scheme
from galloon.shapes import Cut, Mirror
from galloon.workshops import Workshop
from tests.helpers import ONE, SCHEMES, Checked
from tests.makers import ALL_KINDS, deed_of_kind, random_deed

TWO, THREE = Scheme(2, 2), Scheme(1, 3)
# One good written form of each kind, for the scheme ONE.
GOOD = (
    "pass 10 +(-)", "free 10 2", "stamp ab ba", "border a bb", "gate a*b", "turn -1", "once 0:#,0,#>1", "sweep right 0:#,0,#>1",
    "sweep left 0:", "rest 0:#0,0,#0>1", "print 3 AB A=a,B=bb|a", "letters A=a|", "recast A=a|b A=b|a", "mirror", "cut 1 4",
)


class ReadBackTest(Checked):
    def test_each_form(self):
        paint, mask, rule = Paint(TWO, ["10", "01"]), Mask.read("+-(--+)"), Rule.read(TWO, "1:#0,.0,1>1;1,00,#>1")
        font, other = Font(TWO, "a", [("B", "ad"), ("A", "c")]), Font(TWO, "b", [("A", "a"), ("B", "dd")])
        for deed, text in (
            (Pass(paint, mask), "pass 10/01 +-(--+)"), (FreePass(paint, gap=3), "free 10/01 3"), (Stamp(TWO, "ad", "bc"), "stamp ad bc"),
            (Border(TWO, "ad", "bcd"), "border ad bcd"), (Border(TWO, "", "bcd"), "border - bcd"), (Border(TWO, "ad", ""), "border ad -"),
            (Border(TWO, "", ""), "border - -"), (Gate(TWO, "(a|01*)?[ad]"), "gate (a|01*)?[ad]"), (Gate(TWO, ""), "gate -"),
            (Gate(TWO, "|"), "gate |"), (Turn(TWO, -1), "turn -1"), (Turn(TWO, 0), "turn 0"), (Turn(TWO, 1), "turn 1"),
            (Once(rule), f"once {rule}"), (Sweep(rule), f"sweep right {rule}"), (Sweep(rule, back=True), f"sweep left {rule}"),
            (Rest(rule), f"rest {rule}"), (Once(Rule.read(TWO, "0:")), "once 0:"), (Overprint(font, "AB", 7), "print 7 AB A=c,B=ad|a"),
            (Overprint(font, "", 0), "print 0 - A=c,B=ad|a"), (Overprint(Font(TWO, "", []), "", 8), "print 8 - |"),
            (FreePrint(font), "letters A=c,B=ad|a"), (FreePrint(Font(TWO, "", [("A", "a")])), "letters A=a|"),
            (FreePrint(Font(TWO, "abc", [])), "letters |abc"), (Recast(font, other), "recast A=c,B=ad|a A=a,B=dd|b"),
            (Mirror(TWO), "mirror"), (Cut(TWO, 0, 4), "cut 0 4"), (Cut(TWO, 0, 0), "cut 0 0"),
        ):
            self.assertEqual(str(deed), text)
            found = read_deed(TWO, text)
            self.assertIs(found.__class__, deed.__class__)
            self.assertEqual((str(found), found.loom(), found.short, found.flips), (text, deed.loom(), deed.short, deed.flips))
            for name in ("gap", "by", "at", "text", "old", "new", "front", "back", "pattern"):
                if hasattr(deed, name):
                    self.assertEqual(getattr(found, name), getattr(deed, name))

    def test_random_deeds(self):
        rng = random.Random(2000)
        for _ in range(20):
            for kind in ALL_KINDS:
                scheme = rng.choice(SCHEMES)
                deed = deed_of_kind(rng, scheme, kind)
                found = read_deed(scheme, str(deed))
                self.assertEqual((str(found), found.__class__, found.scheme), (str(deed), deed.__class__, scheme))
                self.assertEqual(read_workshop(scheme, str(deed)).outs("ab" * 2), deed.outs("ab" * 2))

    def test_forms_that_are_not_the_least_ones(self):
        for text, written in (
            ("pass 10 +-(+-+-)", "pass 10 (+-)"), ("letters B=b,A=a|", "letters A=a,B=b|"), ("print 0 B B=b,A=a|", "print 0 B A=a,B=b|"),
        ):
            self.assertEqual(str(read_deed(ONE, text)), written)

    def test_longer_masks_than_are_read(self):
        long = Mask.read("(+----)") | Mask.read("(+-----)")
        deed = Pass(Paint(ONE, ["10"]), long)
        self.fails(BadMask, {"part": "loop"}, read_deed, ONE, str(deed))


class WordsTest(Checked):
    def test_no_form_begins_so(self):
        for text in (
            "", " ", "-", "keep", "workshop", "Pass 10 (+)", "passes", " pass 10 (+)", "turn\t1", "mend 0:", "hidden", "cut0 0", "mirror;",
        ):
            self.fails(BadDeed, {"index": 0}, read_deed, ONE, text)

    def test_words_too_few_and_too_many(self):
        for text in GOOD:
            words = text.split(" ")
            for many in range(1, len(words)):
                self.fails(BadDeed, {"index": many}, read_deed, ONE, " ".join(words[:many]))
            for more in ([""], ["a"], ["", ""], ["?", "?", "?"]):
                self.fails(BadDeed, {"index": len(words)}, read_deed, ONE, " ".join(words + more))
            # Their number comes before what is wrong in them.
            wrong = [words[0]] + ["?"] * (len(words) - 1)
            self.fails(BadDeed, {"index": len(words)}, read_deed, ONE, " ".join(wrong + ["?"]))
            if len(words) > 2:
                self.fails(BadDeed, {"index": len(words) - 1}, read_deed, ONE, " ".join(wrong[:-1]))
        self.fails(BadDeed, {"index": 1}, read_deed, ONE, "mirror ")
        self.fails(BadDeed, {"index": 1}, read_deed, ONE, "mirror a b")

    def test_empty_words(self):
        for text in GOOD:
            words = text.split(" ")
            for at in range(1, len(words)):
                self.fails(BadDeed, {"index": at}, read_deed, ONE, " ".join(words[:at] + [""] + words[at + 1:]))
                # Two spaces side by side make one word too many.
                self.fails(BadDeed, {"index": len(words)}, read_deed, ONE, " ".join(words[:at] + [""] + words[at:]))
            self.fails(BadDeed, {"index": 0}, read_deed, ONE, " " + text)
            self.fails(BadDeed, {"index": len(words)}, read_deed, ONE, text + " ")
        for text in ("stamp  ", "border  a", "recast  A=a|"):
            self.fails(BadDeed, {"index": 1}, read_deed, ONE, text)

    def test_words_that_should_be_digits_and_the_like(self):
        for text, index in (
            ("turn 2", 1), ("turn +1", 1), ("turn -0", 1), ("turn 01", 1), ("turn a", 1), ("turn -", 1), ("free 10 10", 2), ("free 10 -1", 2),
            ("free 10 x", 2), ("free ?? x", 2), ("cut 10 0", 1), ("cut 0 -", 2), ("cut x y", 1), ("cut 9 x", 2), ("sweep up 0:", 1),
            ("sweep Right ?", 1), ("sweep - 0:", 1), ("print -1 A A=a|", 1), ("print x ? ?", 1), ("print 12 A A=a|", 1), ("cut \u00b2 0", 1),
            ("cut \u0663 0", 1), ("turn \u0661", 1), ("free 10 +", 2),
        ):
            self.fails(BadDeed, {"index": index}, read_deed, ONE, text)

    def test_the_first_wrong_word_counts(self):
        for text, index in (("cut  x", 1), ("cut x ", 1), ("cut 1 ", 2), ("print   A=a|", 1), ("print 0  ?", 2), ("sweep up ", 1), ("free  x", 1),
                            ("free ? ", 2), ("print x A ", 1), ("print 1 A ", 3)):
            self.fails(BadDeed, {"index": index}, read_deed, ONE, text)


class PartsTest(Checked):
    def test_one_wrong_part(self):
        for text, error, told in (
            ("pass 10/01 (+)", BadPaint, {"row": -1}), ("pass 12 (+)", BadPaint, {"row": 0}), ("pass - (+)", BadPaint, {"row": 0}),
            ("pass 10 +-", BadMask, {"part": "text"}), ("pass 10 (?)", BadMask, {"part": "loop"}), ("pass 10 -", BadMask, {"part": "text"}),
            ("pass 10 ++++++-(+)", BadMask, {"part": "start"}), ("free 1 0", BadPaint, {"row": 0}), ("once 1:", BadRow, {"row": 1}),
            ("once 0", BadRule, {}), ("once -", BadRule, {}), ("sweep left 0:#,0,#>2", BadClause, {"index": 0, "part": "new"}),
            ("sweep right 0:#,0,0", BadRule, {}), ("rest 0:" + ";".join(["#,0,#>1"] * 7), TooMany, {"most": 6}),
            ("letters A=a", BadFont, {"part": "text"}), ("letters -", BadFont, {"part": "text"}), ("letters |abab", BadFont, {"part": "gap"}),
            ("letters a=a|", BadLetter, {"letter": "a"}), ("letters A=c|", BadGlyph, {"letter": "A"}), ("letters A=-|", BadGlyph, {"letter": "A"}),
            ("letters A=a,A=a|", DuplicateLetter, {"letter": "A"}), ("print 0 A A=a|-", BadFont, {"part": "gap"}),
            ("recast A=a| A=a", BadFont, {"part": "text"}), ("recast A=a A=a|", BadFont, {"part": "text"}),
        ):
            self.fails(error, told, read_deed, ONE, text)

    def test_two_wrong_parts_from_left_to_right(self):
        for text, error, told in (
            ("pass ? ?", BadPaint, {"row": 0}), ("pass 1 (?)", BadPaint, {"row": 0}), ("recast A=c| B=c|", BadGlyph, {"letter": "A"}),
            ("recast A=a|? B=c|", BadFont, {"part": "gap"}), ("recast ? A=c|", BadFont, {"part": "text"}),
        ):
            self.fails(error, told, read_deed, ONE, text)

    def test_errors_of_the_constructors_at_the_end(self):
        for text, error, told in (
            ("stamp zz a", BadStamp, {"part": "old"}), ("stamp a zz", BadStamp, {"part": "new"}), ("stamp - -", BadStamp, {"part": "old"}),
            ("stamp ab a", BadStamp, {"part": "new"}), ("stamp aaaaa aaaaa", BadStamp, {"part": "old"}), ("stamp ab -", BadStamp, {"part": "new"}),
            ("border z z", BadStamp, {"part": "front"}), ("border - ababa", BadStamp, {"part": "back"}), ("gate a**", BadPattern, {"place": 2}),
            ("gate --", BadPattern, {"place": 0}), ("free 10 4", BadCount, {"count": 4}), ("free 10 9", BadCount, {"count": 9}),
            ("cut 5 9", BadCount, {"count": 5}), ("cut 4 9", BadCount, {"count": 9}), ("print 9 A A=a|", BadIndex, {"at": 9}),
            ("print 9 AB A=a|", UnknownLetter, {"letter": "B", "place": 1}), ("print 9 AAAAAAAAA A=a|", TooMany, {"most": 8}),
            ("print 0 a A=a|", UnknownLetter, {"letter": "a", "place": 0}), ("print 0 A- A=a|", UnknownLetter, {"letter": "-", "place": 1}),
            ("recast A=a| B=a|", UnequalFonts, {"letter": "A"}), ("recast A=a|a A=a|", UnequalFonts, {"letter": ""}),
            ("rest 0:#,0,#>1;#,1,#>0", NoDrift, {}),
        ):
            self.fails(error, told, read_deed, ONE, text)

    def test_parts_before_the_rest(self):
        # A wrong font comes before a wrong text or index, a wrong paint before a wrong gap.
        for text, error, told in (
            ("print 9 ? ?", BadFont, {"part": "text"}), ("print 9 AAAAAAAAAA A=c|", BadGlyph, {"letter": "A"}), ("free 2 9", BadPaint, {"row": 0}),
        ):
            self.fails(error, told, read_deed, ONE, text)


class ReadWorkshopTest(Checked):
    def test_keep(self):
        for scheme in SCHEMES:
            found = read_workshop(scheme, "keep")
            self.assertIsInstance(found, Workshop)
            self.assertEqual((found.deeds, str(found), found.scheme), ([], "keep", scheme))
        for text in ("", "keep ", " keep", "Keep", "keep ; keep", "keep;"):
            self.fails(BadWorkshop, {"index": 0}, read_workshop, ONE, text)
        self.fails(BadWorkshop, {"index": 1}, read_workshop, ONE, "mirror ; keep")

    def test_eight_and_nine_pieces(self):
        for many in range(1, 9):
            text = " ; ".join(GOOD[:many])
            found = read_workshop(ONE, text)
            self.assertEqual((str(found), len(found)), (text.replace("+(-)", "+(-)"), many))
            self.assertEqual([str(deed) for deed in found.deeds], list(GOOD[:many]))
        for pieces in (["mirror"] * 9, ["mirror"] * 8 + ["?"], ["?"] + ["mirror"] * 8, ["keep"] * 9, [""] * 9, GOOD):
            self.fails(TooMany, {"most": 8}, read_workshop, ONE, " ; ".join(pieces))

    def test_wrong_pieces_with_their_causes(self):
        for text, index, cause in (
            ("turn 2", 0, "BadDeed(1)"), ("mirror ; turn 2 ; turn 3", 1, "BadDeed(1)"), ("mirror ; stamp z a", 1, "BadStamp('old')"),
            ("mirror ; ; mirror", 1, "BadDeed(0)"), ("mirror ;  ; mirror", 1, "BadDeed(0)"), ("mirror;mirror", 0, "BadDeed(0)"),
            (" ; mirror", 0, "BadDeed(0)"), ("mirror ; ", 1, "BadDeed(0)"), ("cut 9 9 ; ?", 0, "BadCount(9)"),
            ("mirror ; rest 0:#,0,#>1;#,1,#>0", 1, "NoDrift()"), ("mirror ; once 0:;", 1, "BadRule()"), ("mirror  ; mirror", 0, "BadDeed(1)"),
            ("; ; mirror", 0, "BadDeed(0)"), ("pass ? (+) ; mirror", 0, "BadPaint(0)"), ("mirror ;; mirror", 0, "BadDeed(1)"),
        ):
            with self.assertRaises(BadWorkshop) as caught:
                read_workshop(ONE, text)
            self.assertEqual(vars(caught.exception), {"index": index}, text)
            found = caught.exception.__cause__
            self.assertIsInstance(found, GalloonError)
            parts = ", ".join(repr(part) for part in vars(found).values())
            self.assertEqual(f"{found.__class__.__name__}({parts})", cause, text)

    def test_rules_with_several_clauses(self):
        text = "once 0:#,0,#>1;0,1,0>0 ; rest 0:#0,0,#0>1;1,0,1>1"
        self.assertEqual(str(read_workshop(ONE, text)), text)

    def test_nested_workshops_as_they_are_written(self):
        rng = random.Random(2010)
        for _ in range(60):
            scheme = rng.choice(SCHEMES[:3])
            inner = Workshop(scheme, [random_deed(rng, scheme) for _ in range(rng.randrange(4))])
            outer = Workshop.of(scheme, inner, random_deed(rng, scheme), Workshop(scheme, [Workshop(scheme, []), inner]))
            found = read_workshop(scheme, str(outer))
            self.assertEqual((str(found), len(found)), (str(outer), 2 * len(inner) + 1))
            self.assertEqual((found.loom(), found.short, found.flips), (outer.loom(), outer.short, outer.flips))
        deep = Workshop.of(ONE, Workshop.of(ONE, Workshop.of(ONE)))
        self.assertEqual(len(read_workshop(ONE, str(deep))), 0)
        long = Workshop(ONE, [Workshop(ONE, [Mirror(ONE)] * 3)] * 3)
        self.fails(TooMany, {"most": 8}, read_workshop, ONE, str(long))


if __name__ == "__main__":
    unittest.main()
