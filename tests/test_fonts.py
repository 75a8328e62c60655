"""Points 47 to 49: fonts, what they print, and their written forms."""

import itertools
import random

from galloon.bales import Bale
from galloon.errors import BadFont, BadGlyph, BadLetter, DuplicateLetter, TooMany, UnknownLetter
from galloon.fonts import Font
from galloon.schemes import Scheme
from tests.helpers import ONE, OTHER_KINDS, SCHEMES, Checked, check_least_bale, members
from tests.test_passes import random_strip

TWO = Scheme(2, 2)
NO_LETTERS = ["", "a", "AA", "AB", "1", " ", "-", "\u00c4", "@", "["]


def random_font(rng, scheme, letters="ABCDEF", glyph=4, gap=3):
    """A font with some of these letters; the greatest widths are passed."""
    chosen = rng.sample(letters, rng.randrange(len(letters) + 1))
    glyphs = [(letter, random_strip(rng, scheme, 1, rng.randint(1, glyph))) for letter in chosen]
    return Font(scheme, random_strip(rng, scheme, 0, rng.randint(0, gap)), glyphs)


def texts_within(font, most):
    """All texts whose prints have at most so many columns, the shorter texts first."""
    letters = [letter for letter, _ in font.glyphs]
    found, fresh = [""], [""]
    while fresh:
        fresh = [text + letter for text in fresh for letter in letters]
        fresh = [text for text in fresh if len(plain_print(font, text)) <= most]
        found += fresh
    return found


def plain_print(font, text):
    glyphs = dict(font.glyphs)
    out = ""
    for place, letter in enumerate(text):
        out += (font.gap if place else "") + glyphs[letter]
    return out


class FontTest(Checked):
    def test_attributes(self):
        glyphs = [("C", "abcd"), ("A", "a"), ("B", "dd")]
        font = Font(TWO, "bd", glyphs)
        glyphs.append(("D", "a"))
        self.assertEqual(font.glyphs, [("A", "a"), ("B", "dd"), ("C", "abcd")])
        self.assertTrue(all(pair.__class__ is tuple for pair in font.glyphs))
        self.assertEqual((font.gap, font.scheme, len(font), Font.MOST), ("bd", TWO, 3, 6))
        self.assertEqual([font[letter] for letter in "ABC"], ["a", "dd", "abcd"])
        self.assertEqual([letter in font for letter in "ABCD"], [True, True, True, False])
        for text in NO_LETTERS + ["D", "Z"]:
            self.assertIs(text in font, False)
            self.fails(UnknownLetter, {"letter": text, "place": 0}, font.__getitem__, text)

    def test_least_and_greatest(self):
        font = Font(ONE, "", [])
        self.assertEqual((font.glyphs, len(font), font.gap), ([], 0, ""))
        self.assertTrue(font.bale() == Bale.listed(ONE, [""]))
        self.assertEqual(font.printed(""), "")
        font = Font(ONE, "bbb", [("Z", "aaaa")])
        self.assertEqual(font.printed("ZZ"), "aaaabbbaaaa")
        self.assertEqual(len(Font(ONE, "", [(letter, "a") for letter in "UVWXYZ"])), 6)
        self.assertEqual(Font(ONE, "aba", []).gap, "aba")

    def test_errors_in_their_order(self):
        seven = [("?", "") for _ in range(7)]
        for gap in ("aaaa", "c", "A", " ", "a-"):
            self.fails(BadFont, {"part": "gap"}, Font, ONE, gap, seven)
            self.fails(BadFont, {"part": "gap"}, Font, ONE, gap, [])
        self.fails(TooMany, {"most": 6}, Font, ONE, "", seven)
        self.fails(TooMany, {"most": 6}, Font, ONE, "", [(letter, "a") for letter in "ABCDEFG"])
        for letter in NO_LETTERS:
            self.fails(BadLetter, {"letter": letter}, Font, ONE, "", [("A", "a"), (letter, ""), ("A", "a")])
        for glyph in ("", "aaaaa", "c", "a b", "A"):
            self.fails(BadGlyph, {"letter": "B"}, Font, ONE, "", [("A", "a"), ("B", glyph), ("?", "a")])
            self.fails(BadGlyph, {"letter": "A"}, Font, ONE, "", [("A", "a"), ("A", glyph)])
        self.fails(DuplicateLetter, {"letter": "A"}, Font, ONE, "", [("A", "a"), ("B", "b"), ("A", "b"), ("B", "b")])
        self.fails(DuplicateLetter, {"letter": "A"}, Font, ONE, "", [("A", "a"), ("A", "a"), ("?", "")])

    def test_equal(self):
        font = Font(ONE, "b", [("A", "a"), ("B", "ab")])
        self.assertTrue(font == Font(ONE, "b", [("B", "ab"), ("A", "a")]))
        for other in (Font(ONE, "", [("A", "a"), ("B", "ab")]), Font(ONE, "b", [("A", "a")]),
                      Font(ONE, "b", [("A", "a"), ("C", "ab")]), Font(ONE, "b", [("A", "a"), ("B", "aa")]),
                      Font(TWO, "b", [("A", "a"), ("B", "ab")])):
            self.assertFalse(font == other)
            self.assertTrue(font != other)
        for other in OTHER_KINDS + [str(font), [("A", "a"), ("B", "ab")]]:
            self.assertIs(font == other, False)

    def test_no_iteration(self):
        font = Font(ONE, "", [("A", "a")])
        for call in (iter, list, tuple, sorted):
            with self.assertRaises(TypeError):
                call(font)


class PrintedTest(Checked):
    def test_plain_trying(self):
        rng = random.Random(750)
        for _ in range(60):
            font = random_font(rng, rng.choice(SCHEMES))
            letters = [letter for letter, _ in font.glyphs]
            for length in range(5):
                for _ in range(5 if letters else 0):
                    text = "".join(rng.choice(letters) for _ in range(length))
                    self.assertEqual(font.printed(text), plain_print(font, text))

    def test_the_first_unknown_letter(self):
        font = Font(ONE, "b", [("A", "a"), ("B", "ab")])
        for text, letter, place in (("C", "C", 0), ("AC", "C", 1), ("ABaC", "a", 2), ("BB ", " ", 2), ("?AC", "?", 0)):
            self.fails(UnknownLetter, {"letter": letter, "place": place}, font.printed, text)
        self.fails(UnknownLetter, {"letter": "A", "place": 0}, Font(ONE, "", []).printed, "A")
        self.assertEqual(font.printed("ABA"), "abab" + "ba")

    def test_bale(self):
        rng = random.Random(751)
        for scheme, most in zip(SCHEMES, (7, 5, 4, 3, 3)):
            for _ in range(12):
                font = random_font(rng, scheme)
                bale = font.bale()
                check_least_bale(self, bale)
                known = {plain_print(font, text) for text in texts_within(font, most)}
                self.assertEqual(set(members(bale, most)), known)

    def test_known_bales(self):
        self.assertTrue(Font(ONE, "", [("A", "a"), ("B", "b")]).bale() == Bale.every(ONE))
        self.assertTrue(Font(ONE, "b", [("A", "a")]).bale() == Bale.shaped(ONE, "(a(ba)*)?"))
        self.assertTrue(Font(ONE, "bb", [("A", "ab"), ("B", "a")]).bale() == Bale.shaped(ONE, "(ab?(bbab?)*)?"))


class WrittenTest(Checked):
    def test_known_forms(self):
        self.assertEqual(str(Font(ONE, "", [("B", "b"), ("A", "ab")])), "A=ab,B=b|")
        self.assertEqual(str(Font(ONE, "ab", [("Q", "aaaa")])), "Q=aaaa|ab")
        self.assertEqual([str(Font(ONE, gap, [])) for gap in ("", "bab")], ["|", "|bab"])

    def test_written_and_read_back(self):
        rng = random.Random(752)
        for _ in range(100):
            font = random_font(rng, rng.choice(SCHEMES))
            self.assertTrue(Font.read(font.scheme, str(font)) == font)
            pieces, _, gap = str(font).partition("|")
            if 2 <= len(font) <= 4:
                for order in itertools.permutations(pieces.split(",")):
                    other = Font.read(font.scheme, ",".join(order) + "|" + gap)
                    self.assertTrue(other == font)
                    self.assertEqual(str(other), str(font))

    def test_texts_that_are_no_form(self):
        for text in ("", "A=a", "A=a||", "A=a|a|", "A|", "A=a,|", ",|", ",A=a|", "A=a,,B=b|", "A=a=b|", "A==a|", "Aa,B=b|",
                     "A=a,B|cccc", "=a=|", "a|b", " |"):
            self.fails(BadFont, {"part": "text"}, Font.read, ONE, text)

    def test_other_errors_in_their_order(self):
        for text, error, told in (
            ("?=,A=a|aaaa", BadFont, {"part": "gap"}), ("A=a| ", BadFont, {"part": "gap"}),
            ("A=a|A=a", BadFont, {"part": "gap"}), (",".join("=" * 7) + "|", TooMany, {"most": 6}),
            ("=|", BadLetter, {"letter": ""}), ("A=a,a=a|", BadLetter, {"letter": "a"}), ("A=|", BadGlyph, {"letter": "A"}),
            (" A=a|", BadLetter, {"letter": " A"}), ("A=a ,B=|", BadGlyph, {"letter": "A"}),
            ("A=a,B=b,A=b|", DuplicateLetter, {"letter": "A"}), ("A=aaaaa|", BadGlyph, {"letter": "A"}),
        ):
            self.fails(error, told, Font.read, ONE, text)
