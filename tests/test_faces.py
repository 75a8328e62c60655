"""Points 52 and 53: faces, the fonts that they may be, and what tells these apart."""

import itertools
import random

from galloon.bales import Bale
from galloon.errors import (
    BadFont, BadGlyph, BadIndex, BadLetter, BadStrip, DuplicateLetter, TooMany, UnknownLetter,
)
from galloon.faces import Face
from galloon.fonts import Font
from galloon.schemes import Scheme
from tests.helpers import ONE, SCHEMES, Checked, words
from tests.test_fonts import NO_LETTERS
from tests.test_passes import random_strip

TWO = Scheme(2, 2)
MOST = {2: 7, 3: 5, 4: 4, 8: 3, 9: 3}
# A stroke of 1 or 2 columns, and one of 1 or 2 between single ones.
PLAIN = Face(ONE, "a", [("B", [("b", 1, 2)]), ("A", [("b", 1, 1), ("a", 1, 2), ("b", 1, 1)])])


def random_parts(rng, scheme):
    parts, left = [], 4
    while left and len(parts) < 3 and (not parts or rng.random() < 0.5):
        columns = [column for column in scheme.columns if not parts or column != parts[-1][0]]
        most = rng.randint(1, min(left, 3))
        parts.append((rng.choice(columns), rng.randint(1, most), most))
        left -= most
    return parts


def random_face(rng, scheme):
    """A face with few ways."""
    while True:
        letters = [(letter, random_parts(rng, scheme)) for letter in rng.sample("ABCD", rng.randint(0, 3))]
        ways = 1
        for _, parts in letters:
            for _, least, most in parts:
                ways *= most - least + 1
        if ways <= 12:
            return Face(scheme, random_strip(rng, scheme, 0, 1), letters), letters


def plain_fonts(face, letters):
    """The glyphs of all fonts, in ascending order of the lists of their widths."""
    letters = sorted(letters)
    ranges = [range(least, most + 1) for _, parts in letters for _, least, most in parts]
    found = []
    for widths in itertools.product(*ranges):
        left = list(widths)
        found.append([(letter, "".join(part[0] * left.pop(0) for part in parts)) for letter, parts in letters])
    return found


class FontsTest(Checked):
    def test_plain_trying(self):
        rng = random.Random(800)
        for _ in range(60):
            scheme = rng.choice(SCHEMES)
            face, letters = random_face(rng, scheme)
            fonts = face.fonts()
            self.assertEqual([font.glyphs for font in fonts], plain_fonts(face, letters))
            self.assertTrue(all(font.__class__ is Font and font.scheme == scheme for font in fonts))
            self.assertEqual((len(face), face.scheme), (len(fonts), scheme))

    def test_known_fonts(self):
        self.assertEqual([str(font) for font in PLAIN.fonts()],
                         ["A=bab,B=b|a", "A=bab,B=bb|a", "A=baab,B=b|a", "A=baab,B=bb|a"])
        self.assertEqual(len(PLAIN), 4)
        self.assertEqual([str(font) for font in Face(ONE, "bab", []).fonts()], ["|bab"])
        face = Face(ONE, "", [("A", [("a", 1, 2), ("b", 1, 2)])])
        self.assertEqual([font["A"] for font in face.fonts()], ["ab", "abb", "aab", "aabb"])
        face.fonts().clear()
        self.assertEqual(len(face.fonts()), 4)

    def test_lists_are_copied(self):
        parts = [("a", 1, 2)]
        letters = [("A", parts)]
        face = Face(ONE, "", letters)
        parts.append(("b", 1, 1))
        letters.append(("B", [("b", 1, 1)]))
        self.assertEqual([str(font) for font in face.fonts()], ["A=a|", "A=aa|"])

    def test_errors_in_their_order(self):
        seven = [("?", [])] * 7
        for gap in ("aaaa", "c", "A"):
            self.fails(BadFont, {"part": "gap"}, Face, ONE, gap, seven)
        self.fails(TooMany, {"most": 6}, Face, ONE, "", seven)
        good = [("a", 1, 1)]
        for letter in NO_LETTERS:
            self.fails(BadLetter, {"letter": letter}, Face, ONE, "", [("A", good), (letter, []), ("A", [])])
        for parts in (
            [], [("a", 1, 1), ("b", 1, 1), ("a", 1, 1), ("b", 1, 1)], [("a", 1, 1), ("a", 1, 1)],
            [("a", 1, 1), ("b", 1, 1), ("b", 1, 1)], [("a", 0, 1)], [("a", 2, 1)], [("a", 1, 5)], [("a", -1, 1)],
            [("a", 1, 2), ("b", 1, 3)], [("a", 1, 2), ("b", 1, 1), ("a", 1, 2)], [("c", 1, 1)], [("", 1, 1)],
            [("ab", 1, 1)], [("A", 1, 1)], [("a", 1, 1), ("b", 0, 0)], [("a", 10 ** 30, 10 ** 30)],
        ):
            self.fails(BadGlyph, {"letter": "B"}, Face, ONE, "", [("A", good), ("B", parts), ("?", [])])
            self.fails(BadGlyph, {"letter": "A"}, Face, ONE, "", [("A", good), ("A", parts)])
        self.fails(DuplicateLetter, {"letter": "A"}, Face, ONE, "", [("A", good), ("A", good), ("?", [])])
        # The least and the greatest parts that are valid.
        for parts in ([("a", 1, 4)], [("a", 4, 4)], [("a", 1, 1), ("b", 1, 1), ("a", 1, 2)], [("a", 1, 1)]):
            self.assertEqual(len(Face(ONE, "", [("A", parts)])), parts[-1][2] - parts[-1][1] + 1)

    def test_24_and_25_ways(self):
        two, three, four = [("a", 1, 2)], [("a", 1, 3)], [("a", 1, 4)]
        self.assertEqual(len(Face(ONE, "", [("A", two), ("B", three), ("C", four)])), 24)
        self.assertEqual(len(Face(ONE, "", [("A", [("a", 1, 2), ("b", 1, 2)]), ("B", two), ("C", three)])), 24)
        # 25 cannot be reached by widths from 1 to 4: 27 and 32 are the next numbers of ways.
        self.fails(TooMany, {"most": 24}, Face, ONE, "", [("A", three), ("B", three), ("C", three)])
        self.fails(TooMany, {"most": 24}, Face, ONE, "", [("A", two), ("B", four), ("C", four)])
        self.fails(TooMany, {"most": 24}, Face, ONE, "", [(letter, four) for letter in "ABCDEF"])
        self.fails(DuplicateLetter, {"letter": "A"}, Face, ONE, "", [("A", four), ("B", four), ("C", four), ("A", two)])


class FittingTest(Checked):
    def test_plain_trying(self):
        rng = random.Random(801)
        seen = set()
        for _ in range(50):
            scheme = rng.choice(SCHEMES)
            face, letters = random_face(rng, scheme)
            bales = [font.bale() for font in face.fonts()]
            true = rng.choice(bales)
            for many in range(4):
                strips = [strip for strip in (random_strip(rng, scheme, 0, 7) for _ in range(3)) if rng.random() < 0.3]
                strips += [strip for _, strip in zip(range(many), list(true.strips(5))[::-1])]
                known = [index for index, bale in enumerate(bales) if all(strip in bale for strip in strips)]
                self.assertEqual(face.fitting(strips), known)
                seen.add("all" if len(known) == len(bales) else "some" if known else "none")
                for letter, _ in letters:
                    widths = {len(face.fonts()[index][letter]) for index in known}
                    self.assertEqual(face.widths(letter, strips), sorted(widths))
        self.assertEqual(seen, {"all", "some", "none"})

    def test_known_strips(self):
        self.assertEqual(PLAIN.fitting([]), [0, 1, 2, 3])
        self.assertEqual(PLAIN.fitting([""]), [0, 1, 2, 3])
        self.assertEqual(PLAIN.fitting(["bb"]), [1, 3])
        self.assertEqual(PLAIN.fitting(["b", "baab"]), [2])
        self.assertEqual(PLAIN.fitting(["aaaa"]), [])
        self.assertEqual(PLAIN.fitting(["bab"]), [0, 1, 2])
        self.assertEqual(PLAIN.widths("A", ["bb"]), [3, 4])
        self.assertEqual(PLAIN.widths("B", ["bb"]), [2])
        self.assertEqual(PLAIN.widths("B", ["aaaa"]), [])

    def test_errors_in_their_order(self):
        for text in ("c", "A", " "):
            self.fails(BadStrip, {"text": text}, PLAIN.fitting, ["aaaa", text, "?"])
            self.fails(BadStrip, {"text": text}, PLAIN.widths, "A", [text, "?"])
            self.fails(BadStrip, {"text": text}, PLAIN.shown, [text, "?"], -1)
        for letter in NO_LETTERS + ["C", "Z"]:
            self.fails(UnknownLetter, {"letter": letter, "place": 0}, PLAIN.widths, letter, ["?"])
            self.fails(UnknownLetter, {"letter": letter, "place": 0}, PLAIN.widths, letter, [])


class PartingTest(Checked):
    def test_plain_trying(self):
        rng = random.Random(802)
        for _ in range(25):
            scheme = rng.choice(SCHEMES)
            face, _ = random_face(rng, scheme)
            most = MOST[len(scheme)]
            bales = [font.bale() for font in face.fonts()]
            for one in range(len(face)):
                other = rng.randrange(len(face))
                known = [strip for strip in words(scheme, most) if (strip in bales[one]) != (strip in bales[other])]
                found = face.parting(one, other)
                if known:
                    self.assertEqual(found, known[0])
                elif found is not None:
                    self.assertGreater(len(found), most)
                    self.assertNotEqual(found in bales[one], found in bales[other])

    def test_known_strips(self):
        self.assertEqual([PLAIN.parting(0, other) for other in range(4)], [None, "b", "baab", "b"])
        self.assertEqual(PLAIN.parting(3, 1), "bab")
        face = Face(ONE, "", [("A", [("a", 1, 2)]), ("B", [("a", 1, 2)])])
        self.assertEqual([face.parting(one, other) for one, other in ((0, 1), (1, 2), (2, 3), (0, 3))],
                         [None, None, "a", "a"])

    def test_the_first_wrong_index(self):
        for at in (-1, 4, 10 ** 30, -(10 ** 30)):
            self.fails(BadIndex, {"at": at}, PLAIN.parting, at, 99)
            self.fails(BadIndex, {"at": at}, PLAIN.parting, 0, at)
            self.fails(BadIndex, {"at": at}, PLAIN.parting, at, 0)


class ShownTest(Checked):
    def test_plain_trying(self):
        rng = random.Random(803)
        answers = {True: 0, False: 0}
        for _ in range(40):
            scheme = rng.choice(SCHEMES)
            face, _ = random_face(rng, scheme)
            fonts = face.fonts()
            most = MOST[len(scheme)]
            strips = [strip for strip in rng.choice(fonts).bale().strips(4)][-1:] if rng.random() < 0.6 else []
            bales = [fonts[index].bale() for index in face.fitting(strips)]
            known = [
                strip for strip in words(scheme, most)
                if any(strip in bale for bale in bales) and not all(strip in bale for bale in bales)
            ]
            for length in range(-1, most + 1):
                first = known[0] if known and len(known[0]) <= length else None
                self.assertEqual(face.shown(strips, length), first)
            answers[not known] += 1
        self.assertGreater(min(answers.values()), 5)

    def test_known_strips(self):
        for strips, length, found in (
            ([], 5, "b"), ([], 1, "b"), ([], 0, None), ([], -1, None), ([], -(10 ** 30), None), (["b"], 3, None),
            (["b"], 4, "baab"), (["bb"], 40, "bab"), (["b", "baab"], 40, None), (["aaaa"], 40, None), ([""], 9, "b"),
        ):
            self.assertEqual(PLAIN.shown(strips, length), found, (strips, length))

    def test_faces_whose_fonts_print_the_same(self):
        face = Face(ONE, "", [("A", [("a", 1, 1)]), ("B", [("a", 1, 3)])])
        self.assertEqual(len(face), 3)
        self.assertIsNone(face.shown([], 60))
        self.assertTrue(all(font.bale() == Bale.shaped(ONE, "a*") for font in face.fonts()))
