"""Points 57 to 59: blocks, their least form and products, and what they make."""

import random

from galloon.blocks import Block
from galloon.endless import Endless
from galloon.errors import BadBlock, BadStrip, TooWide, UnlikeSchemes
from galloon.mends import Once
from galloon.paints import Paint
from galloon.schemes import Scheme
from galloon.strips import mirrored, turned
from tests.helpers import ONE, OTHER_KINDS, SCHEMES, Checked, words
from tests.test_endless import random_endless
from tests.test_passes import random_paint, random_strip
from tests.test_rules import random_rule

TWO = Scheme(2, 2)
THREE = Scheme(1, 3)
# So many columns a window may have at most.
WIDEST = {2: 9, 3: 6, 4: 4, 8: 3, 9: 3}


def exactly(scheme, length):
    """All strips of just this length."""
    return [strip for strip in words(scheme, length) if len(strip) == length]


def random_block(rng, scheme, most=3):
    """A block with windows of at most so many columns, not all of which may count."""
    width = rng.randint(1, min(most, WIDEST[len(scheme)]))
    left = rng.randrange(width)
    return Block(scheme, left, width - 1 - left, random_strip(rng, scheme, len(scheme) ** width, len(scheme) ** width))


def raw_around(scheme, left, right, results, strip):
    """What a table makes of a ring, whatever its least form is."""
    table = dict(zip(exactly(scheme, left + 1 + right), results))
    size = len(strip)
    return "".join(
        table["".join(strip[(at + by) % size] for by in range(-left, right + 1))] for at in range(size)
    )


def places(block):
    """The offsets of the columns on which the result of a block depends."""
    table = dict(zip(exactly(block.scheme, block.left + 1 + block.right), block.results))
    found = set()
    for window in table:
        for at in range(len(window)):
            for column in block.scheme.columns:
                if table[window] != table[window[:at] + column + window[at + 1:]]:
                    found.add(at - block.left)
    return found


class LeastFormTest(Checked):
    def test_tables_that_depend_on_fewer_places(self):
        rng = random.Random(830)
        for scheme in SCHEMES:
            for _ in range(12):
                block = random_block(rng, scheme, 2)
                spare = WIDEST[len(scheme)] - block.left - block.right - 1
                front = rng.randint(0, min(2, spare))
                back = rng.randint(0, min(2, spare - front))
                wider = "".join(
                    block.inner(window[front:len(window) - back])
                    for window in exactly(scheme, front + block.left + 1 + block.right + back)
                )
                other = Block(scheme, block.left + front, block.right + back, wider)
                self.assertEqual((other.left, other.right, other.results), (block.left, block.right, block.results))
                self.assertTrue(other == block)
                on = places(block)
                self.assertEqual((block.left, block.right), (max([0] + [-at for at in on]), max([0] + list(on))))

    def test_known_forms(self):
        for left, right, results, least in (
            (1, 1, "aaaaaaaa", (0, 0, "aa")), (1, 1, "aabbaabb", (0, 0, "ab")), (1, 1, "aaaabbbb", (1, 0, "aabb")),
            (1, 1, "abababab", (0, 1, "abab")), (2, 0, "aaaabbbb", (2, 0, "aaaabbbb")), (0, 2, "abababab", (0, 2, "abababab")),
            (1, 1, "abbaabba", (0, 1, "abba")), (1, 1, "aabbbbaa", (1, 0, "abba")), (0, 0, "ba", (0, 0, "ba")),
            (1, 0, "abab", (0, 0, "ab")), (0, 1, "aabb", (0, 0, "ab")), (1, 1, "aaaaaaab", (1, 1, "aaaaaaab")),
        ):
            block = Block(ONE, left, right, results)
            self.assertEqual((block.left, block.right, block.results), least)

    def test_equal(self):
        rng = random.Random(831)
        answers = {True: 0, False: 0}
        for _ in range(300):
            parts = [(rng.randrange(2), rng.randrange(2)) for _ in range(2)]
            one, other = [
                Block(ONE, left, right, rng.choice(("ab", "aa", "ba")) * 2 ** (left + right)) for left, right in parts
            ]
            known = all(one.around(strip) == other.around(strip) for strip in words(ONE, 6))
            self.assertIs(one == other, known)
            self.assertIs(one != other, not known)
            answers[known] += 1
        self.assertGreater(min(answers.values()), 20)
        self.assertFalse(Block.identity(ONE) == Block.identity(TWO))
        for other in OTHER_KINDS + ["ab"]:
            self.assertIs(Block.identity(ONE) == other, False)

    def test_bad_reach(self):
        for scheme in SCHEMES:
            widest = WIDEST[len(scheme)]
            for left, right in ((-1, 0), (0, -1), (-1, 3), (-(10 ** 30), 0), (widest, 0), (0, widest), (10 ** 30, 10 ** 30),
                                (widest - 1, 1), (1, widest - 1)):
                self.fails(BadBlock, {"part": "reach"}, Block, scheme, left, right, "?")
                self.fails(BadBlock, {"part": "reach"}, Block, scheme, left, right, "")
            self.fails(BadBlock, {"part": "results"}, Block, scheme, widest - 1, 0, "")
            block = Block(scheme, widest - 1, 0, "a" * (len(scheme) ** widest - 1) + "b")
            self.assertEqual((block.left, block.right, len(block.results)), (widest - 1, 0, len(scheme) ** widest))
        self.assertEqual(Block.MOST, 729)

    def test_bad_results(self):
        for results in ("", "a", "abc", "ac", "a ", "AB", "abab"):
            self.fails(BadBlock, {"part": "results"}, Block, ONE, 0, 0, results)
        for results in ("aba", "ababa", "abac", "0101"):
            self.fails(BadBlock, {"part": "results"}, Block, ONE, 1, 0, results)


class ClassMethodsTest(Checked):
    def test_identity(self):
        for scheme in SCHEMES:
            block = Block.identity(scheme)
            self.assertEqual((block.left, block.right, block.results, block.scheme), (0, 0, scheme.columns, scheme))
            for strip in words(scheme, 2):
                self.assertEqual((block.around(strip), block.inner(strip)), (strip, strip))

    def test_shift(self):
        rng = random.Random(832)
        for scheme in SCHEMES:
            widest = WIDEST[len(scheme)]
            for by in range(1 - widest, widest):
                block = Block.shift(scheme, by)
                self.assertEqual((block.left, block.right), (max(0, -by), max(0, by)))
                endless = random_endless(rng, scheme)
                self.assertTrue(block(endless) == endless.moved(by))
                for strip in ("", "b", "ab", scheme.columns, "abb" * 5):
                    self.assertEqual(block.around(strip), turned(strip, by))
            for by in (widest, -widest, 10 ** 30, -(10 ** 30)):
                self.fails(BadBlock, {"part": "reach"}, Block.shift, scheme, by)
            self.assertTrue(Block.shift(scheme, 0) == Block.identity(scheme))

    def test_of_paint(self):
        rng = random.Random(833)
        for scheme in SCHEMES:
            for _ in range(5):
                paint = random_paint(rng, scheme)
                block = Block.of_paint(paint)
                self.assertEqual((block.left, block.right, block.results), (0, 0, paint(scheme.columns)))
                strip = random_strip(rng, scheme, 0, 12)
                self.assertEqual((block.around(strip), block.inner(strip)), (paint(strip), paint(strip)))
        self.assertTrue(Block.of_paint(Paint.still(TWO)) == Block.identity(TWO))

    def test_of_rule(self):
        rng = random.Random(834)
        for scheme in SCHEMES:
            for _ in range(8):
                rule = random_rule(rng, scheme)
                block = Block.of_rule(rule)
                once = Once(rule)
                for _ in range(6):
                    strip = random_strip(rng, scheme, 3, 9)
                    # Every spot between the two ends has two neighbours.
                    inner = block.inner(strip)
                    self.assertEqual(inner[1 - block.left:len(inner) - 1 + block.right], once.outs(strip)[0][1:-1])
                    # The columns of a ring, three times round, have the same neighbours in the middle.
                    thrice = once.outs(strip * 3)[0]
                    self.assertEqual(block.around(strip), thrice[len(strip):2 * len(strip)])


class ProductTest(Checked):
    def test_one_after_the_other(self):
        rng = random.Random(835)
        wide = 0
        for scheme in SCHEMES:
            for _ in range(20):
                first, second = random_block(rng, scheme, 3), random_block(rng, scheme, 3)
                reach = first.left + first.right + second.left + second.right
                if len(scheme) ** (reach + 1) > 729:
                    self.fails(TooWide, {}, first.__mul__, second)
                    wide += 1
                    continue
                product = first * second
                for _ in range(10):
                    strip = random_strip(rng, scheme, 0, 8)
                    self.assertEqual(product.around(strip), second.around(first.around(strip)))
                endless = random_endless(rng, scheme)
                self.assertTrue(product(endless) == second(first(endless)))
        self.assertGreater(wide, 5)

    def test_known_products(self):
        self.assertTrue(Block.shift(ONE, 3) * Block.shift(ONE, -2) == Block.shift(ONE, 1))
        self.assertTrue(Block.shift(ONE, 4) * Block.shift(ONE, -4) == Block.identity(ONE))
        self.assertTrue(Block.shift(ONE, 8) * Block.identity(ONE) == Block.shift(ONE, 8))
        paint = Block.of_paint(Paint(ONE, ["10"]))
        self.assertTrue(paint * paint == Block.identity(ONE))

    def test_too_wide_even_if_the_least_form_is_not(self):
        for one, other in ((5, -4), (8, 1), (-8, 8), (4, 5), (-5, -4)):
            self.fails(TooWide, {}, Block.shift(ONE, one).__mul__, Block.shift(ONE, other))
        self.fails(TooWide, {}, Block.shift(TWO, 2).__mul__, Block.shift(TWO, -2))
        # The attributes of the least forms count.
        still = Block(ONE, 4, 4, "ab" * 256)
        self.assertEqual((still.left, still.right), (0, 4))
        self.assertTrue(still * Block.shift(ONE, -4) == Block.identity(ONE))

    def test_unlike_schemes(self):
        self.fails(UnlikeSchemes, {}, Block.shift(ONE, 8).__mul__, Block.shift(TWO, 3))


class MadeTest(Checked):
    def test_endless_strips(self):
        rng = random.Random(836)
        for scheme in SCHEMES:
            for _ in range(15):
                block = random_block(rng, scheme, 4)
                endless = random_endless(rng, scheme)
                made = block(endless)
                for begin, stop in ((-40, 40), (-1000, -990), (990, 1000)):
                    self.assertEqual(made.window(begin, stop), block.inner(endless.window(begin - block.left, stop + block.right)))
                for index in (-7, 0, 5):
                    around = endless.window(index - block.left, index + block.right + 1)
                    self.assertEqual(made.column_at(index), block.inner(around))
                self.assertEqual(made.scheme, scheme)

    def test_windows_that_reach_over_all_parts(self):
        block = Block(ONE, 4, 4, "".join("ab"[window.count("b") % 2] for window in exactly(ONE, 9)))
        endless = Endless(ONE, "ab", "b", "aab", start=2)
        made = block(endless)
        for index in range(-30, 30):
            self.assertEqual(made.column_at(index), "ab"[endless.window(index - 4, index + 5).count("b") % 2])
        self.assertTrue(Block.shift(ONE, 1)(block(endless)) == block(endless.moved(1)))

    def test_inner(self):
        rng = random.Random(837)
        for scheme in SCHEMES:
            for _ in range(10):
                block = random_block(rng, scheme, 3)
                table = dict(zip(exactly(scheme, block.left + 1 + block.right), block.results))
                for length in range(6):
                    strip = random_strip(rng, scheme, length, length)
                    width = block.left + 1 + block.right
                    made = "".join(table[strip[at:at + width]] for at in range(length - width + 1))
                    self.assertEqual(block.inner(strip), made)
        block = Block(ONE, 1, 1, "abbabaab")
        self.assertEqual([block.inner(strip) for strip in ("", "a", "ab", "aab", "aaba")], ["", "", "", "b", "bb"])

    def test_around_rings_of_any_length(self):
        rng = random.Random(838)
        for scheme in SCHEMES:
            for _ in range(15):
                width = rng.randint(1, min(4, WIDEST[len(scheme)]))
                left = rng.randrange(width)
                results = random_strip(rng, scheme, len(scheme) ** width, len(scheme) ** width)
                block = Block(scheme, left, width - 1 - left, results)
                for length in range(7):
                    strip = random_strip(rng, scheme, length, length)
                    made = raw_around(scheme, left, width - 1 - left, results, strip)
                    self.assertEqual(block.around(strip), made)
                    self.assertEqual(block.around(turned(strip, 2)), turned(made, 2))
        block = Block(ONE, 4, 4, "".join("ab"[window.count("b") % 2] for window in exactly(ONE, 9)))
        self.assertEqual([block.around(strip) for strip in ("", "a", "b", "ab", "abb")], ["", "a", "b", "ab", "aaa"])

    def test_mirrored(self):
        rng = random.Random(839)
        for scheme in SCHEMES:
            for _ in range(10):
                block = random_block(rng, scheme, 3)
                other = block.mirrored()
                self.assertEqual((other.left, other.right), (block.right, block.left))
                for _ in range(6):
                    strip = random_strip(rng, scheme, 0, 7)
                    self.assertEqual(other.around(mirrored(strip)), mirrored(block.around(strip)))
                self.assertTrue(other.mirrored() == block)
        self.assertTrue(Block.shift(ONE, 3).mirrored() == Block.shift(ONE, -3))

    def test_errors(self):
        block = Block(ONE, 1, 1, "abbabaab")
        for text in ("c", "abaA", " "):
            self.fails(BadStrip, {"text": text}, block.inner, text)
            self.fails(BadStrip, {"text": text}, block.around, text)
        self.fails(UnlikeSchemes, {}, block, Endless(TWO, "a", "", "a"))
