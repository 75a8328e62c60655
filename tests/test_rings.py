"""Point 64: the sources of rings, rings that cannot come, and rounds."""

import random

from galloon.blocks import Block
from galloon.errors import BadCount, BadStrip, TooMany
from galloon.paints import Paint
from galloon.rings import barren_ring, how_many_sources, ring_rounds, ring_sources
from galloon.schemes import Scheme
from tests.helpers import ONE, Checked
from tests.test_blocks import exactly
from tests.test_gardens import blocks

TWO = Scheme(2, 2)
THREE = Scheme(1, 3)
MOST = {2: 7, 3: 4, 4: 3}
BLANK = Block.of_paint(Paint(ONE, ["00"]))


class SourcesTest(Checked):
    def test_plain_trying(self):
        many = 0
        for block in blocks(850, 60):
            for length in range(1, MOST[len(block.scheme)] + 1):
                sources = {}
                for strip in exactly(block.scheme, length):
                    sources.setdefault(block.around(strip), []).append(strip)
                for strip in exactly(block.scheme, length):
                    known = sources.get(strip, [])
                    self.assertEqual(how_many_sources(block, strip), len(known))
                    if len(known) <= 200:
                        self.assertEqual(ring_sources(block, strip), known)
                    else:
                        self.fails(TooMany, {"most": 200}, ring_sources, block, strip)
                    many += len(known) > 1
                barren = [strip for strip in exactly(block.scheme, length) if strip not in sources]
                self.assertEqual(barren_ring(block, length), barren[0] if barren else None)
        self.assertGreater(many, 100)

    def test_rings_that_are_shorter_than_the_window(self):
        block = Block(ONE, 4, 4, "".join("ab"[window.count("b") % 2] for window in exactly(ONE, 9)))
        for length in range(1, 8):
            for strip in exactly(ONE, length)[::3]:
                known = [text for text in exactly(ONE, length) if block.around(text) == strip]
                self.assertEqual(ring_sources(block, strip), known)
                self.assertEqual(how_many_sources(block, strip), len(known))

    def test_the_empty_strip(self):
        for block in (BLANK, Block.shift(TWO, 2), Block(ONE, 1, 1, "aaaaaaab")):
            self.assertEqual((ring_sources(block, ""), how_many_sources(block, "")), ([""], 1))
            self.assertEqual(ring_rounds(block, ""), (0, 1))

    def test_just_200_and_above(self):
        # The results of columns b and c are the same, those of d to h, and a is its own.
        block = Block(Scheme(3, 2), 0, 0, "abbddddd")
        for strip, many in (("bbbdd", 200), ("bbddab", 200), ("dddb", 250), ("bbbbbbbb", 256), ("dd", 25), ("c", 0)):
            self.assertEqual(how_many_sources(block, strip), many)
            if many > 200:
                self.fails(TooMany, {"most": 200}, ring_sources, block, strip)
            else:
                self.assertEqual(len(set(ring_sources(block, strip))), many)
                self.assertEqual(ring_sources(block, strip), sorted(ring_sources(block, strip)))

    def test_they_are_counted(self):
        self.assertEqual(how_many_sources(BLANK, "a" * 40), 2 ** 40)
        self.assertEqual(how_many_sources(BLANK, "a" * 39 + "b"), 0)
        self.fails(TooMany, {"most": 200}, ring_sources, BLANK, "a" * 40)
        self.assertEqual(ring_sources(BLANK, "a" * 39 + "b"), [])
        both = Block(ONE, 0, 1, "aaab")
        # Rings without two neighbouring b, as Lucas counted them.
        self.assertEqual(how_many_sources(both, "a" * 40), 228826127)
        self.assertEqual(ring_sources(Block.shift(ONE, 2), "ab" * 20), ["ab" * 20])
        self.assertEqual(ring_sources(Block.shift(ONE, -1), "a" * 39 + "b"), ["a" * 38 + "ba"])

    def test_errors(self):
        for call in (ring_sources, how_many_sources, ring_rounds):
            for text in ("c", "abA", " "):
                self.fails(BadStrip, {"text": text}, call, BLANK, text)


class BarrenTest(Checked):
    def test_known_rings(self):
        self.assertEqual([barren_ring(BLANK, length) for length in (1, 2, 3)], ["b", "ab", "aab"])
        self.assertEqual([barren_ring(Block.shift(TWO, 1), length) for length in (1, 2, 3, 4)], [None] * 4)
        add = Block(ONE, 0, 1, "abba")
        self.assertEqual([barren_ring(add, length) for length in (1, 2, 3, 9)], ["b", "ab", "aab", "a" * 8 + "b"])
        three = Block(ONE, 1, 1, "abbabaab")
        self.assertEqual([barren_ring(three, length) for length in (1, 2, 3, 4)], [None, None, "aab", None])
        self.assertIsNone(barren_ring(Block.identity(THREE), 6))
        self.assertIsNone(barren_ring(Block.identity(Scheme(2, 3)), 3))

    def test_wrong_lengths(self):
        for length in (0, -1, -(10 ** 30)):
            self.fails(BadCount, {"count": length}, barren_ring, BLANK, length)


class RoundsTest(Checked):
    def test_plain_trying(self):
        ahead = 0
        for block in blocks(851, 60):
            for length in range(1, MOST[len(block.scheme)] + 1):
                for strip in exactly(block.scheme, length)[::5]:
                    line = [strip]
                    while block.around(line[-1]) not in line:
                        line.append(block.around(line[-1]))
                    before = line.index(block.around(line[-1]))
                    self.assertEqual(ring_rounds(block, strip), (before, len(line) - before))
                    ahead += before > 1
        self.assertGreater(ahead, 10)

    def test_known_rounds(self):
        self.assertEqual(ring_rounds(Block.shift(ONE, 1), "aabaab"), (0, 3))
        self.assertEqual(ring_rounds(Block.identity(ONE), "ab"), (0, 1))
        self.assertEqual(ring_rounds(BLANK, "ab"), (1, 1))
        self.assertEqual(ring_rounds(BLANK, "aa"), (0, 1))
        self.assertEqual(ring_rounds(Block(ONE, 0, 1, "abba"), "aaab"), (4, 1))
        self.assertEqual(ring_rounds(Block(ONE, 0, 1, "aaab"), "abbbbb"), (5, 1))
        self.assertEqual(ring_rounds(Block.of_paint(Paint(THREE, ["120"])), "abc"), (0, 3))
