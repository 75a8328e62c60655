"""Points 50 and 51: the readings of a strip, ambiguous strips, and sure letters."""

import itertools
import random

from galloon.bales import Bale
from galloon.errors import BadStrip, TooMany, UnlikeSchemes
from galloon.fonts import Font
from galloon.readings import (
    ambiguous, first_reading, first_text, how_many_readings, readings, sure_letters,
)
from galloon.schemes import Scheme
from tests.helpers import ONE, SCHEMES, Checked, random_rows, words
from tests.test_fonts import plain_print, random_font, texts_within

TWO = Scheme(2, 2)
TWINS = Font(ONE, "", [("A", "a"), ("B", "a")])
MOST = {2: 7, 3: 5, 4: 4, 8: 3, 9: 3}


def fonts(seed, many):
    """Fonts of which many have strips with several readings."""
    rng = random.Random(seed)
    for at in range(many):
        scheme = rng.choice(SCHEMES[:3] + SCHEMES[:1] * 3)
        yield rng, random_font(rng, scheme, "ABCDE" if at % 3 else "AB", rng.randint(1, 4), rng.choice((0, 0, 1, 2, 3)))


def all_readings(font, most):
    """For each strip of at most so many columns that the font prints its texts, in order."""
    found = {}
    for text in texts_within(font, most):
        found.setdefault(plain_print(font, text), []).append(text)
    return found


def labels(font, text):
    """What covers each column of the print of a text."""
    glyphs = dict(font.glyphs)
    return ("-" * len(font.gap)).join(letter * len(glyphs[letter]) for letter in text)


def merged(lines):
    """The labels that are the same in all lines, or None without lines."""
    if not lines:
        return None
    return "".join(column[0] if len(set(column)) == 1 else "?" for column in zip(*lines))


class ReadingsTest(Checked):
    def test_plain_trying(self):
        seen = set()
        for _, font in fonts(760, 60):
            most = MOST[len(font.scheme)]
            known = all_readings(font, most)
            for strip in words(font.scheme, most):
                texts = known.get(strip, [])
                self.assertEqual(how_many_readings(font, strip), len(texts))
                self.assertEqual(first_reading(font, strip), texts[0] if texts else None)
                if len(texts) <= 200:
                    self.assertEqual(readings(font, strip), texts)
                seen.add(min(len(texts), 3))
        self.assertEqual(seen, {0, 1, 2, 3})

    def test_known_readings(self):
        font = Font(ONE, "", [("A", "a"), ("B", "ab"), ("C", "ba")])
        self.assertEqual(readings(font, "aba"), ["AC", "BA"])
        self.assertEqual(readings(font, "bb"), [])
        self.assertIsNone(first_reading(font, "b"))
        font = Font(ONE, "", [("A", "a"), ("B", "aa"), ("C", "aaa")])
        self.assertEqual(readings(font, "aaa"), ["C", "AB", "BA", "AAA"])
        self.assertEqual(first_reading(font, "aaaa"), "AC")
        for each in (font, Font(ONE, "bb", []), TWINS):
            self.assertEqual((readings(each, ""), how_many_readings(each, ""), first_reading(each, "")), ([""], 1, ""))

    def test_gaps_that_may_be_glyphs(self):
        font = Font(ONE, "a", [("A", "a"), ("B", "aaa")])
        self.assertEqual(readings(font, "aaa"), ["B", "AA"])
        self.assertEqual(readings(font, "aaaaa"), ["AB", "BA", "AAA"])
        self.assertEqual([how_many_readings(font, "a" * many) for many in range(8)], [1, 1, 0, 2, 0, 3, 0, 5])
        font = Font(ONE, "ab", [("A", "b"), ("B", "bab")])
        self.assertEqual(readings(font, "babb"), ["AA"])
        self.assertEqual(readings(font, "babba"), [])
        self.assertEqual(readings(font, "bab"), ["B"])

    def test_just_200_and_above(self):
        font = Font(ONE, "", [("A", "a"), ("B", "a"), ("C", "b"), ("D", "b"), ("E", "b"), ("F", "b")])
        self.assertEqual(how_many_readings(font, "aaabb"), 128)
        self.assertEqual(len(readings(font, "aaabb")), 128)
        two = Font(ONE, "", [("A", "a"), ("B", "aa"), ("C", "b"), ("D", "b"), ("E", "b"), ("F", "b")])
        for strip, many in (("aaaabbaaab", 5 * 16 * 3 * 4), ("aaaab", 20), ("aaaabb", 80), ("aaaaaabb", 13 * 16)):
            self.assertEqual(how_many_readings(two, strip), many)
        fives = Font(ONE, "", [("A", "a"), ("B", "aa"), ("C", "b"), ("D", "b")])
        for strip, many in (("aaaabaaaabbb", 5 * 2 * 5 * 8), ("aaaabaaaabb", 200), ("aaaaaaaaaaa", 144),
                            ("aaaaaaaaaaab", 288), ("aaaaabaaaaabaa", 512), ("aaaaaaaaaaaa", 233)):
            self.assertEqual(how_many_readings(fives, strip), many)
            if many > 200:
                self.fails(TooMany, {"most": 200}, readings, fives, strip)
            else:
                texts = readings(fives, strip)
                self.assertEqual(len(set(texts)), many)
                self.assertEqual(texts, sorted(texts, key=lambda text: (len(text), text)))
                self.assertTrue(all(fives.printed(text) == strip for text in texts))
                self.assertEqual(first_reading(fives, strip), texts[0])

    def test_very_many_readings_are_counted(self):
        six = Font(ONE, "", [(letter, "a") for letter in "ABCDEF"])
        self.assertEqual(how_many_readings(six, "a" * 40), 6 ** 40)
        self.assertEqual(first_reading(six, "a" * 40), "A" * 40)
        self.fails(TooMany, {"most": 200}, readings, six, "a" * 40)
        self.assertEqual(how_many_readings(six, "a" * 39 + "b"), 0)
        self.assertEqual(readings(six, "a" * 39 + "b"), [])
        self.assertIsNone(first_reading(six, "a" * 39 + "b"))

    def test_only_strips(self):
        for call in (how_many_readings, readings, first_reading, sure_letters):
            for text in ("c", "aB", "A", " ", "a" * 20 + "-"):
                self.fails(BadStrip, {"text": text}, call, TWINS, text)
        self.fails(BadStrip, {"text": "c"}, sure_letters, TWINS, "c", torn=True)


class FirstTextTest(Checked):
    def test_plain_trying(self):
        answers = {True: 0, False: 0}
        for rng, font in fonts(761, 60):
            bale = Bale(font.scheme, *random_rows(rng, font.scheme, 4))
            found = first_text(font, bale)
            letters = [letter for letter, _ in font.glyphs]
            texts = ["".join(part) for many in range(5) for part in itertools.product(letters, repeat=many)]
            known = [text for text in texts if plain_print(font, text) in bale]
            if known or found is None or len(found) < 5:
                self.assertEqual(found, known[0] if known else None)
            else:
                self.assertIn(plain_print(font, found), bale)
            answers[found is None] += 1
        self.assertGreater(min(answers.values()), 10)

    def test_known_texts(self):
        font = Font(ONE, "b", [("A", "a"), ("B", "ab"), ("C", "bb")])
        for pattern, text in ((".*", ""), (".+", "A"), ("a.b", None), ("ab", "B"), ("....+", "AB"), (".*bbbb", "BC"),
                              ("(ab)*a", "A"), ("(ab)+", "B"), ("ababa", "AAA"), (".*aa.*", None), ("b+", "C"),
                              ("bbb+", "CC")):
            self.assertEqual(first_text(font, Bale.shaped(ONE, pattern)), text, pattern)
        for strip in ("ababbab", "abbbab", "bbbaba"):
            self.assertEqual(first_text(font, Bale.listed(ONE, [strip])), first_reading(font, strip))
        self.assertIsNone(first_text(font, Bale.none(ONE)))
        self.assertEqual(first_text(Font(ONE, "a", []), Bale.every(ONE)), "")
        self.assertIsNone(first_text(Font(ONE, "a", []), Bale.shaped(ONE, ".+")))

    def test_long_texts(self):
        font = Font(ONE, "", [("A", "aaa"), ("B", "aa")])
        self.assertEqual(first_text(font, Bale.listed(ONE, ["a" * 40])), "A" * 12 + "BB")
        self.assertEqual(first_text(font, Bale.shaped(ONE, "(aaaaaaa)+")), "ABB")

    def test_unlike_schemes(self):
        self.fails(UnlikeSchemes, {}, first_text, TWINS, Bale.every(TWO))


class AmbiguousTest(Checked):
    def test_plain_trying(self):
        answers = {True: 0, False: 0}
        for _, font in fonts(762, 200):
            most = MOST[len(font.scheme)]
            found = ambiguous(font)
            known = [(strip, texts) for strip, texts in all_readings(font, most).items() if len(texts) > 1]
            known = sorted((len(strip), strip, texts[0], texts[1]) for strip, texts in known)
            if known:
                self.assertEqual(found, known[0][1:])
            elif found is not None:
                self.assertGreater(len(found[0]), most)
                self.assertEqual(list(found[1:]), readings(font, found[0])[:2])
            answers[found is None] += 1
        self.assertGreater(min(answers.values()), 30)

    def test_known_fonts(self):
        for gap, glyphs, found in (
            ("", [], None), ("a", [], None), ("", [("A", "a"), ("B", "b")], None), ("", [("A", "a"), ("B", "a")], ("a", "A", "B")),
            ("", [("A", "ab"), ("B", "abb"), ("C", "bab")], ("abbab", "AC", "BA")),
            ("b", [("A", "a"), ("B", "aba")], ("aba", "B", "AA")), ("a", [("A", "a"), ("B", "aaa")], ("aaa", "B", "AA")),
            ("", [("A", "aaa"), ("B", "aaaa")], ("a" * 7, "AB", "BA")),
            ("ab", [("A", "b"), ("B", "bab")], None),
        ):
            self.assertEqual(ambiguous(Font(ONE, gap, glyphs)), found)

    def test_six_readings(self):
        font = Font(ONE, "", [(letter, "b") for letter in "FEDCBA"])
        self.assertEqual(ambiguous(font), ("b", "A", "B"))


class SureTest(Checked):
    def test_plain_trying(self):
        for _, font in fonts(763, 40):
            most = MOST[len(font.scheme)]
            known = all_readings(font, most)
            for strip in words(font.scheme, most):
                lines = [labels(font, text) for text in known.get(strip, [])]
                self.assertEqual(sure_letters(font, strip), merged(lines))
                self.assertEqual(sure_letters(font, strip, torn=False), merged(lines))

    def test_torn_out_windows(self):
        answers = {True: 0, False: 0}
        for _, font in fonts(764, 40):
            most = 3
            # A window of 3 columns stands in a text with at most 5 letters, however narrow they are.
            letters = [letter for letter, _ in font.glyphs]
            texts, fresh = [""], [""]
            for _ in range(5):
                fresh = [text + letter for text in fresh for letter in letters]
                texts += fresh
            windows = {}
            for text in texts:
                printed, line = plain_print(font, text), labels(font, text)
                for length in range(1, most + 1):
                    for at in range(len(printed) - length + 1):
                        windows.setdefault(printed[at:at + length], set()).add(line[at:at + length])
            for strip in words(font.scheme, most)[1:]:
                found = sure_letters(font, strip, torn=True)
                self.assertEqual(found, merged(sorted(windows.get(strip, []))))
                answers[found is None] += 1
            self.assertEqual(sure_letters(font, "", torn=True), "")
        self.assertGreater(min(answers.values()), 30)

    def test_known_letters(self):
        font = Font(ONE, "", [("A", "a"), ("B", "ab"), ("C", "ba")])
        self.assertEqual(sure_letters(font, "abaa"), "???A")
        self.assertEqual(sure_letters(font, "ba"), "CC")
        self.assertEqual(sure_letters(font, "ba", torn=True), "??")
        self.assertIsNone(sure_letters(font, "bb"))
        self.assertIsNone(sure_letters(font, "bbb", torn=True))
        self.assertEqual(sure_letters(font, "bb", torn=True), "BC")

    def test_windows_inside_a_gap(self):
        font = Font(TWO, "bcb", [("A", "ad"), ("B", "da")])
        self.assertEqual(sure_letters(font, "cb", torn=True), "--")
        self.assertEqual(sure_letters(font, "c", torn=True), "-")
        self.assertEqual(sure_letters(font, "bc", torn=True), "--")
        self.assertEqual(sure_letters(font, "dbcbd", torn=True), "A---B")
        self.assertIsNone(sure_letters(font, "cb"))
        self.assertIsNone(sure_letters(font, "bb", torn=True))
        self.assertEqual(sure_letters(font, "adbcbda"), "AA---BB")
        self.assertEqual(sure_letters(font, "d", torn=True), "?")

    def test_the_empty_strip_and_fonts_without_letters(self):
        for font in (TWINS, Font(ONE, "bb", []), Font(ONE, "", [])):
            self.assertEqual((sure_letters(font, ""), sure_letters(font, "", torn=True)), ("", ""))
        self.assertIsNone(sure_letters(Font(ONE, "bb", []), "b", torn=True))
        self.assertIsNone(sure_letters(Font(ONE, "", []), "b"))

    def test_long_strips_with_very_many_readings(self):
        self.assertEqual(sure_letters(TWINS, "a" * 40), "?" * 40)
        font = Font(ONE, "b", [("A", "a"), ("B", "a")])
        self.assertEqual(sure_letters(font, "ab" * 19 + "a"), "?-" * 19 + "?")
        self.assertEqual(sure_letters(font, "ab" * 20, torn=True), "?-" * 20)
