"""Point 54: overprints, free letters and recasts; with point 85, their written forms."""

import random

from galloon.bales import Bale
from galloon.deeds import Deed
from galloon.errors import BadIndex, BadStrip, TooMany, UnequalFonts, UnknownLetter, UnlikeSchemes
from galloon.faces import Face
from galloon.fonts import Font
from galloon.prints import FreePrint, Overprint, Recast, print_menu
from galloon.schemes import Scheme
from tests.deed_checks import MOST, check_deed, told_by
from tests.helpers import ONE, SCHEMES, Checked
from tests.test_fonts import plain_print, random_font, texts_within
from tests.test_passes import random_strip

TWO = Scheme(2, 2)
FONT = Font(ONE, "b", [("A", "a"), ("B", "abb"), ("C", "ba")])


def recut(rng, font):
    """A font with the same letters and widths, and other columns."""
    def other(strip):
        return random_strip(rng, font.scheme, len(strip), len(strip))
    return Font(font.scheme, other(font.gap), [(letter, other(glyph)) for letter, glyph in font.glyphs])


class OverprintTest(Checked):
    def test_plain_trying(self):
        rng = random.Random(810)
        for scheme in SCHEMES:
            for _ in range(10):
                font = random_font(rng, scheme, "ABC", 2, 1)
                text = rng.choice(texts_within(font, 4))
                at = rng.randrange(4)
                over = plain_print(font, text)

                def plain(strip):
                    whole = len(strip) >= at + len(over)
                    return [strip[:at] + over + strip[at + len(over):]] if whole else []
                check_deed(self, Overprint(font, text, at), plain)

    def test_known_prints(self):
        for text, at, strip, outs in (
            ("", 0, "", [""]), ("", 0, "ab", ["ab"]), ("", 8, "a" * 8, ["a" * 8]), ("", 8, "a" * 7, []),
            ("AB", 0, "aaaaa", ["ababb"]), ("AB", 0, "aaaa", []), ("AB", 1, "bbbbbb", ["bababb"]), ("AB", 1, "bbbbb", []),
            ("CA", 8, "b" * 12, ["b" * 8 + "baba"]), ("CA", 8, "b" * 13, ["b" * 8 + "babab"]), ("CA", 8, "b" * 11, []),
            ("A", 3, "b" * 40, ["bbba" + "b" * 36]),
        ):
            deed = Overprint(FONT, text, at)
            self.assertEqual((deed.outs(strip), deed.played(strip)), (outs, outs))

    def test_attributes(self):
        deed = Overprint(FONT, "AB", 7)
        self.assertIs(deed.font, FONT)
        self.assertEqual((deed.text, deed.at, deed.scheme, deed.KIND), ("AB", 7, ONE, "print"))
        self.assertIsInstance(deed, Deed)

    def test_errors_in_their_order(self):
        for text, letter, place in (("D", "D", 0), ("BBBBD", "D", 4), ("a", "a", 0), ("A A", " ", 1)):
            self.fails(UnknownLetter, {"letter": letter, "place": place}, Overprint, FONT, text, -1)
        for text in ("BBB", "AAAAA", "CCC" + "A", "BBBB"):
            if len(FONT.printed(text)) > 8:
                self.fails(TooMany, {"most": 8}, Overprint, FONT, text, 99)
        self.assertEqual([len(FONT.printed(text)) for text in ("CCC", "BABA", "AAAAA")], [8, 11, 9])
        self.fails(TooMany, {"most": 8}, Overprint, FONT, "AAAAA", -1)
        self.assertEqual(Overprint(FONT, "CCC", 8).outs("b" * 16), ["b" * 8 + "babbabba"])
        for at in (-1, 9, 10 ** 30):
            self.fails(BadIndex, {"at": at}, Overprint, FONT, "A", at)
            self.fails(BadIndex, {"at": at}, Overprint, FONT, "", at)


class FreePrintTest(Checked):
    def test_plain_trying(self):
        rng = random.Random(811)
        for scheme in SCHEMES:
            for _ in range(12):
                font = random_font(rng, scheme, "ABCD", 3, rng.choice((0, 0, 1, 3)))
                prints = {plain_print(font, text) for text in texts_within(font, MOST[len(scheme)])}
                check_deed(self, FreePrint(font), lambda strip: [one for one in prints if len(one) == len(strip)])

    def test_with_and_without_a_gap(self):
        glyphs = [("A", "a"), ("B", "bb")]
        deed = FreePrint(Font(ONE, "", glyphs))
        self.assertEqual(deed.outs("aaa"), ["aaa", "abb", "bba"])
        deed = FreePrint(Font(ONE, "b", glyphs))
        self.assertEqual(deed.outs("aaa"), ["aba"])
        self.assertEqual(deed.outs("bbbb"), ["abbb", "bbba"])
        self.assertEqual(deed.outs("a"), ["a"])
        for each in (deed, FreePrint(Font(ONE, "b", []))):
            self.assertEqual((each.outs(""), each.played("")), ([""], [""]))
        self.assertEqual(FreePrint(Font(ONE, "", [])).outs("a"), [])
        self.assertEqual(FreePrint(Font(ONE, "", [])).played("a"), [])

    def test_just_200_and_above(self):
        # Texts of A and BB have as many prints as the numbers of Fibonacci tell.
        two = FreePrint(Font(ONE, "", [("A", "a"), ("B", "bb")]))
        many = FreePrint(Font(Scheme(2, 3), "", [(letter, letter.lower()) for letter in "ABCDEF"]))
        for deed, length, known in ((two, 11, 144), (two, 12, 233), (many, 2, 36), (many, 3, 216)):
            strip = "a" * length
            self.assertEqual(deed.loom().count_outs(strip), known)
            for call in (deed.outs, deed.played):
                if known > 200:
                    self.fails(TooMany, {"most": 200}, call, strip)
                else:
                    self.assertEqual(len(set(call(strip))), known)
        self.fails(TooMany, {"most": 200}, two.outs, "a" * 40)
        self.fails(TooMany, {"most": 200}, two.played, "a" * 40)
        self.assertIs(two.makes("b" * 40, "abba" * 10), True)
        self.assertIs(two.makes("b" * 40, "abab" * 10), False)
        # Very many texts, but one print.
        six = FreePrint(Font(ONE, "", [(letter, "b") for letter in "ABCDEF"]))
        self.assertEqual((six.outs("a" * 40), six.played("a" * 40)), (["b" * 40], ["b" * 40]))

    def test_exactly_200(self):
        font = Font(Scheme(2, 3), "", [("A", "abcd"), ("B", "a"), ("C", "bc"), ("D", "def"), ("E", "gh"), ("F", "i")])
        deed = FreePrint(font)
        for length in range(7):
            outs, played = told_by(deed, "a" * length, deed.outs), told_by(deed, "a" * length, deed.played)
            self.assertEqual(outs, played)
            self.assertEqual(outs is None, deed.loom().count_outs("a" * length) > 200)

    def test_attributes(self):
        deed = FreePrint(FONT)
        self.assertIs(deed.font, FONT)
        self.assertEqual((deed.scheme, deed.KIND), (ONE, "letters"))
        self.assertIsInstance(deed, Deed)
        self.assertTrue(deed.image(Bale.every(ONE)) == FONT.bale())


class RecastTest(Checked):
    def test_plain_trying(self):
        rng = random.Random(812)
        several = 0
        for scheme in SCHEMES:
            for _ in range(12):
                old = random_font(rng, scheme, "ABCD", 3, rng.choice((0, 0, 1, 3)))
                new = recut(rng, old)
                told = {}
                for text in texts_within(old, MOST[len(scheme)]):
                    told.setdefault(plain_print(old, text), set()).add(plain_print(new, text))
                check_deed(self, Recast(old, new), lambda strip: told.get(strip, ()))
                several += any(len(outs) > 1 for outs in told.values())
        self.assertGreater(several, 5)

    def test_strips_with_no_one_and_several_readings(self):
        old = Font(ONE, "", [("A", "a"), ("B", "ab"), ("C", "ba")])
        new = Font(ONE, "", [("A", "b"), ("B", "aa"), ("C", "ab")])
        deed = Recast(old, new)
        for strip, outs in (("", [""]), ("bb", []), ("ab", ["aa"]), ("aba", ["aab", "bab"]), ("abaa", ["aabb", "babb"])):
            self.assertEqual((deed.outs(strip), deed.played(strip)), (outs, outs))

    def test_more_than_200_readings(self):
        old = Font(ONE, "", [(letter, "a") for letter in "ABCDEF"])
        one = Recast(old, Font(ONE, "", [(letter, "b") for letter in "ABCDEF"]))
        self.assertEqual((one.outs("a" * 40), one.played("a" * 40)), (["b" * 40], ["b" * 40]))
        two = Recast(old, Font(ONE, "", [(letter, "ab"[letter < "C"]) for letter in "ABCDEF"]))
        self.assertEqual(len(two.outs("a" * 7)), 128)
        self.assertEqual(two.played("a" * 7), two.outs("a" * 7))
        for call in (two.outs, two.played):
            self.fails(TooMany, {"most": 200}, call, "a" * 8)
            self.fails(TooMany, {"most": 200}, call, "a" * 40)
            self.assertEqual(call("a" * 39 + "b"), [])
        self.assertIs(two.makes("a" * 40, "ab" * 20), True)
        self.assertIs(two.makes("a" * 40, "ab" * 19), False)

    def test_gaps_are_recast_too(self):
        old = Font(ONE, "bb", [("A", "a"), ("B", "ab")])
        new = Font(ONE, "ab", [("A", "b"), ("B", "bb")])
        deed = Recast(old, new)
        for strip, outs in (("abba", ["babb"]), ("abbbab", ["bbabbb"]), ("abb", []), ("bba", [])):
            self.assertEqual((deed.outs(strip), deed.played(strip)), (outs, outs))

    def test_attributes(self):
        new = Font(ONE, "a", [("C", "bb"), ("A", "b"), ("B", "aaa")])
        deed = Recast(FONT, new)
        self.assertIs(deed.old, FONT)
        self.assertIs(deed.new, new)
        self.assertEqual((deed.scheme, deed.KIND), (ONE, "recast"))
        self.assertIsInstance(deed, Deed)
        self.assertEqual(Recast(Font(ONE, "", []), Font(ONE, "", [])).outs(""), [""])

    def test_errors_in_their_order(self):
        def font(gap, *pairs):
            return Font(ONE, gap, list(pairs))
        base = font("a", ("B", "a"), ("C", "ab"), ("E", "b"))
        for other, letter in (
            (font("", ("B", "a"), ("C", "ab")), "E"), (font("", ("C", "ab"), ("E", "b")), "B"), (font(""), "B"),
            (font("", ("A", "a"), ("C", "a"), ("E", "b")), "A"), (font("", ("B", "a"), ("C", "a"), ("D", "b")), "C"),
            (font("", ("B", "a"), ("C", "ab"), ("D", "b"), ("E", "bb")), "D"), (font("", ("B", "bb"), ("C", "ab")), "B"),
            (font("", ("B", "b"), ("C", "ba"), ("E", "a")), ""), (font("bb", ("B", "b"), ("C", "ba"), ("E", "a")), ""),
            (font("a", ("B", "a"), ("C", "ab"), ("E", "b"), ("F", "b")), "F"),
        ):
            self.fails(UnequalFonts, {"letter": letter}, Recast, base, other)
            self.fails(UnequalFonts, {"letter": letter}, Recast, other, base)
        self.fails(UnlikeSchemes, {}, Recast, base, Font(TWO, "", []))
        self.assertEqual(Recast(base, font("b", ("B", "b"), ("C", "bb"), ("E", "a"))).outs("aab"), ["bba"])


class MenuTest(Checked):
    def test_the_overprints_in_order(self):
        face = Face(ONE, "a", [("A", [("b", 1, 2)]), ("B", [("a", 1, 2), ("b", 1, 1)])])
        menu = print_menu(face, "AB", 2)
        self.assertEqual([str(deed) for deed in menu], [f"print 2 AB {font}" for font in face.fonts()])
        self.assertTrue(all(deed.__class__ is Overprint and (deed.text, deed.at) == ("AB", 2) for deed in menu))
        self.assertEqual([len(deed.font.printed("AB")) for deed in menu], [4, 5, 5, 6])

    def test_the_first_font_that_has_an_error(self):
        face = Face(ONE, "", [("A", [("b", 1, 4)]), ("B", [("a", 1, 1)])])
        self.assertEqual(len(print_menu(face, "AA", 0)), 4)
        self.fails(TooMany, {"most": 8}, print_menu, face, "AAA", 0)
        # The first font has no print that is too wide, but the index is wrong for it.
        self.fails(BadIndex, {"at": 9}, print_menu, face, "AAA", 9)
        self.fails(TooMany, {"most": 8}, print_menu, face, "A" * 9, 9)
        self.fails(UnknownLetter, {"letter": "C", "place": 1}, print_menu, face, "ACA", 9)
        self.fails(UnknownLetter, {"letter": "A", "place": 0}, print_menu, Face(ONE, "", []), "A", 9)
        self.assertEqual([str(deed) for deed in print_menu(Face(ONE, "", []), "", 3)], ["print 3 - |"])


class WrittenTest(Checked):
    def test_forms(self):
        new = Font(ONE, "", [("A", "b")])
        old = Font(ONE, "", [("A", "a")])
        for deed, text in (
            (Overprint(FONT, "AB", 3), "print 3 AB A=a,B=abb,C=ba|b"), (Overprint(FONT, "", 0), "print 0 - A=a,B=abb,C=ba|b"),
            (Overprint(old, "A", 8), "print 8 A A=a|"), (FreePrint(FONT), "letters A=a,B=abb,C=ba|b"),
            (FreePrint(Font(ONE, "", [])), "letters |"), (Recast(old, new), "recast A=a| A=b|"),
            (Recast(Font(ONE, "a", []), Font(ONE, "b", [])), "recast |a |b"),
        ):
            self.assertEqual(str(deed), text)
            self.assertEqual(str(deed).split(" ")[0], deed.KIND)

    def test_only_strips(self):
        for deed in (Overprint(FONT, "A", 0), FreePrint(FONT), Recast(FONT, FONT)):
            for call in (deed.outs, deed.played):
                self.fails(BadStrip, {"text": "c"}, call, "c")
