"""Points 60 to 63: orphans, covers, twins, fused rings, and blocks that take everything back."""

import random

from galloon.bales import Bale
from galloon.blocks import Block
from galloon.endless import Endless, endless_apart
from galloon.errors import BadStrip, TooWide
from galloon.gardens import cover, fused, orphan, twin_strips, twins, undone
from galloon.paints import Paint
from galloon.rules import Rule
from galloon.schemes import Scheme
from tests.helpers import ONE, Checked, check_least_bale, members, words
from tests.test_blocks import exactly, random_block
from tests.test_endless import random_endless

TWO = Scheme(2, 2)
THREE = Scheme(1, 3)
# How long the strips and rings are of which all are tried.
MOST = {2: 8, 3: 5, 4: 4}


def shuffled(rng, scheme):
    """A block that exchanges columns, one by one."""
    columns = list(scheme.columns)
    rng.shuffle(columns)
    return Block(scheme, 0, 0, "".join(columns))


def row_shift(scheme, by):
    """A block that moves row 0 only."""
    results = ""
    for window in exactly(scheme, 2):
        one, other = [scheme.spots(column) for column in (window if by < 0 else window[::-1])]
        results += scheme.column(one[0] + other[1:])
    return Block(scheme, 1, 0, results) if by < 0 else Block(scheme, 0, 1, results)


def permuting(rng, scheme, width, at_end):
    """A block whose result is another one for each column at one end of the window."""
    table = {}
    for part in exactly(scheme, width - 1):
        columns = list(scheme.columns)
        rng.shuffle(columns)
        for column, new in zip(scheme.columns, columns):
            table[part + column if at_end else column + part] = new
    left = rng.randrange(width)
    return Block(scheme, left, width - 1 - left, "".join(table[window] for window in sorted(table)))


def one_to_one(rng, scheme):
    """A block that loses nothing, made of blocks that lose nothing."""
    block = shuffled(rng, scheme)
    for _ in range(rng.randint(1, 3)):
        if scheme.rows > 1 and rng.random() < 0.6:
            other = row_shift(scheme, rng.choice((-1, 1)))
        else:
            other = rng.choice((Block.shift(scheme, rng.choice((-1, 1))), shuffled(rng, scheme)))
        if len(scheme) ** (block.left + block.right + other.left + other.right + 1) <= 729:
            block = block * other
    return block


def blocks(seed, many):
    """Blocks of all kinds: any ones, ones without orphans, and ones that lose nothing."""
    rng = random.Random(seed)
    for at in range(many):
        scheme = (ONE, THREE, TWO)[at % 3]
        kind = at // 3 % 3
        if kind == 0:
            yield random_block(rng, scheme, 4 if scheme == ONE else 3)
        elif kind == 1:
            yield permuting(rng, scheme, rng.randint(1, 3), rng.random() < 0.5)
        else:
            yield one_to_one(rng, scheme)


def plain_orphan(block, most):
    for length in range(most + 1):
        made = {block.inner(strip) for strip in exactly(block.scheme, length + block.left + block.right)}
        for strip in exactly(block.scheme, length):
            if strip not in made:
                return strip
    return None


def first_equal(strips, key):
    """The first two different strips of a list with the same key, the first one first, or None."""
    groups = {}
    for strip in strips:
        groups.setdefault(key(strip), []).append(strip)
    return min([tuple(group[:2]) for group in groups.values() if len(group) > 1], default=None)


def plain_twins(block, most):
    reach = block.left + block.right
    for length in range(most + 1):
        found = first_equal(
            exactly(block.scheme, length) if length >= reach else [],
            lambda strip: (strip[:reach], strip[len(strip) - reach:], block.inner(strip)),
        )
        if found:
            return found
    return None


def plain_fused(block, most):
    for length in range(1, most + 1):
        found = first_equal(exactly(block.scheme, length), block.around)
        if found:
            return found
    return None


class AgainstPlainTryingTest(Checked):
    def agrees(self, found, known, most, width):
        """The answer is the plain one, or it is longer than what has been tried."""
        if known is None and found is not None:
            self.assertGreater(width(found), most)
        else:
            self.assertEqual(found, known)

    def test_all_functions(self):
        seen = {}
        for block in blocks(840, 180):
            most = MOST[len(block.scheme)]
            lone, pair, same, back = orphan(block), twins(block), fused(block), undone(block)
            self.agrees(lone, plain_orphan(block, most - 2), most - 2, len)
            self.agrees(pair, plain_twins(block, most), most, lambda two: len(two[0]))
            self.agrees(same, plain_fused(block, most), most, lambda two: len(two[0]))
            self.assertEqual(lone is None, pair is None)
            self.assertEqual(back is None, same is not None)
            seen[(lone is None, same is None, back is not None and back.left + back.right > 0)] = True
            for two in (pair, same):
                if two is not None:
                    self.assertIs(two.__class__, tuple)
                    self.assertLess(*two)
            if back is not None:
                self.check_undone(block, back)
        self.assertEqual(sorted(seen), [
            (False, False, False), (True, False, False), (True, True, False), (True, True, True),
        ])

    def check_undone(self, block, back):
        """Both products have the effect of the identity."""
        scheme = block.scheme
        for strip in words(scheme, 5 if len(scheme) < 4 else 3):
            self.assertEqual(back.around(block.around(strip)), strip)
            self.assertEqual(block.around(back.around(strip)), strip)
        endless = random_endless(random.Random(841), scheme)
        self.assertTrue(back(block(endless)) == endless)
        self.assertTrue(block(back(endless)) == endless)
        reach = block.left + block.right + back.left + back.right
        if len(scheme) ** (reach + 1) <= 729:
            self.assertTrue(block * back == Block.identity(scheme))
            self.assertTrue(back * block == Block.identity(scheme))

    def test_twin_strips(self):
        answers = {True: 0, False: 0}
        for block in blocks(842, 90):
            found = twin_strips(block)
            self.assertEqual(found is None, twins(block) is None)
            answers[found is None] += 1
            if found is not None:
                one, other = found
                self.assertTrue(one.__class__ is Endless and other.__class__ is Endless)
                self.assertTrue(endless_apart(one, other))
                self.assertTrue(block(one) == block(other))
                self.assertFalse(one == other)
        self.assertGreater(min(answers.values()), 20)


class OrphanTest(Checked):
    def test_known_orphans(self):
        for block, found in (
            (Block.identity(ONE), None), (Block.shift(TWO, -2), None), (Block.of_paint(Paint(ONE, ["00"])), "b"),
            (Block.of_paint(Paint(ONE, ["11"])), "a"), (Block(ONE, 1, 1, "aaaaaaab"), "bab"),
            (Block(ONE, 0, 1, "abba"), None), (Block(ONE, 1, 1, "abbabaab"), None), (Block(THREE, 0, 0, "aac"), "b"),
            (Block.of_rule(Rule.read(ONE, "0:1,0,1>1")), "bab"),
        ):
            self.assertEqual(orphan(block), found)

    def test_long_orphans(self):
        # All columns count, so that many sets of words are met.
        block = Block(ONE, 1, 1, "abaabbba")
        found, known = orphan(block), plain_orphan(block, 10)
        self.assertEqual(found, known)
        block = Block(ONE, 2, 2, "".join("ab"[window.count("b") >= 3] for window in exactly(ONE, 5)))
        self.assertEqual(orphan(block), plain_orphan(block, 8))


class CoverTest(Checked):
    def test_plain_trying(self):
        rng = random.Random(843)
        for block in blocks(844, 60):
            scheme, reach = block.scheme, block.left + block.right
            most = MOST[len(scheme)]
            for strip in ["", rng.choice(scheme.columns)] + [rng.choice(words(scheme, 3)) for _ in range(3)]:
                bale = cover(block, strip)
                check_least_bale(self, bale)
                self.assertEqual(bale.scheme, scheme)
                if len(strip) + reach <= most:
                    known = [text for text in words(scheme, most) if len(text) >= reach and block.inner(text) == strip]
                    known = [text for text in known if strip or len(text) == reach]
                    self.assertEqual(members(bale, most), known)

    def test_the_empty_strip_and_orphans(self):
        block = Block(ONE, 1, 1, "aaaaaaab")
        self.assertTrue(cover(block, "") == Bale.listed(ONE, ["aa", "ab", "ba", "bb"]))
        self.assertTrue(cover(block, "bab") == Bale.none(ONE))
        self.assertTrue(cover(block, "bb") == Bale.listed(ONE, ["bbbb"]))
        self.assertTrue(cover(Block.identity(ONE), "") == Bale.listed(ONE, [""]))
        self.assertTrue(cover(Block.identity(ONE), "ab") == Bale.listed(ONE, ["ab"]))

    def test_long_strips(self):
        block = Block(ONE, 1, 1, "aaaaaaab")
        # Strips without three neighbouring b: each number is the sum of the three before it.
        numbers = [1, 2, 4]
        while len(numbers) < 43:
            numbers.append(sum(numbers[-3:]))
        self.assertEqual(cover(block, "a" * 40).how_many(42), numbers[42])
        block = Block(ONE, 0, 1, "abba")
        bale = cover(block, "ab" * 20)
        self.assertEqual([bale.how_many(length) for length in (40, 41, 42)], [0, 2, 0])
        self.assertTrue(all(block.inner(strip) == "ab" * 20 for strip in bale.strips(41)))

    def test_only_strips(self):
        for text in ("c", "A", "ab "):
            self.fails(BadStrip, {"text": text}, cover, Block.identity(ONE), text)


class TwinsTest(Checked):
    def test_known_twins(self):
        for block, found in (
            (Block.identity(ONE), None), (Block.shift(ONE, 5), None), (Block.of_paint(Paint(ONE, ["00"])), ("a", "b")),
            (Block(THREE, 0, 0, "abb"), ("b", "c")), (Block(ONE, 1, 1, "aaaaaaab"), ("aaaaa", "aabaa")),
            (Block(ONE, 0, 1, "aaab"), ("aaa", "aba")), (Block(ONE, 0, 1, "abba"), None),
        ):
            self.assertEqual(twins(block), found)

    def test_the_ends_count(self):
        # The first strips that differ in the middle must have the same columns at both ends.
        for block in blocks(845, 60):
            pair, reach = twins(block), block.left + block.right
            if pair is not None:
                one, other = pair
                self.assertEqual(one[:reach], other[:reach])
                self.assertEqual(one[len(one) - reach:], other[len(other) - reach:])
                self.assertEqual(block.inner(one), block.inner(other))
                self.assertNotEqual(one, other)


class FusedTest(Checked):
    def test_known_rings(self):
        for block, found in (
            (Block.identity(ONE), None), (Block.shift(ONE, 5), None), (Block.of_paint(Paint(ONE, ["00"])), ("a", "b")),
            (Block(THREE, 0, 0, "abb"), ("b", "c")), (Block(ONE, 0, 1, "abba"), ("a", "b")),
            (Block(ONE, 1, 1, "abbabaab"), ("aaa", "abb")),
        ):
            self.assertEqual(fused(block), found)

    def test_long_rings_without_twins(self):
        # The sum of columns whose differences repeat after 7, 15 and 31 columns only.
        for width, taps, length in ((4, (0, 1, 3), 7), (5, (0, 1, 4), 15), (6, (0, 2, 5), 31)):
            results = "".join("ab"[sum(window[tap] == "b" for tap in taps) % 2] for window in exactly(ONE, width))
            for left in (0, 1, width - 1):
                block = Block(ONE, left, width - 1 - left, results)
                self.assertIsNone(twins(block))
                one, other = fused(block)
                self.assertEqual((one, len(other)), ("a" * length, length))
                self.assertEqual(block.around(one), block.around(other))
                if length < 12:
                    self.assertEqual((one, other), plain_fused(block, length))
                self.assertIsNone(undone(block))

    def test_all_blocks_of_three_columns(self):
        for number in range(256):
            block = Block(ONE, 1, 1, "".join("ab"[number >> bit & 1] for bit in range(8)))
            found, known = fused(block), plain_fused(block, 6)
            self.assertEqual(found, known)
            pair, lone = twins(block), orphan(block)
            self.assertEqual((pair is None, lone is None), (lone is None, pair is None))
            back = undone(block)
            self.assertEqual(back is None, found is not None)


class UndoneTest(Checked):
    def test_known_blocks(self):
        for by in (-8, -3, 0, 5, 8):
            self.assertTrue(undone(Block.shift(ONE, by)) == Block.shift(ONE, -by))
        swap = Block.of_paint(Paint(TWO, ["10", "01"]))
        self.assertTrue(undone(swap) == swap)
        turn = Block.of_paint(Paint(THREE, ["120"]))
        self.assertTrue(undone(turn) == Block.of_paint(Paint(THREE, ["201"])))
        self.assertTrue(undone(row_shift(TWO, 1)) == row_shift(TWO, -1))
        self.assertIsNone(undone(Block.of_paint(Paint(ONE, ["00"]))))
        self.assertIsNone(undone(Block(ONE, 0, 1, "abba")))

    def test_one_to_one_with_a_reach(self):
        # A column is exchanged if its neighbours are just so, and these never are exchanged themselves.
        results = "".join(
            {"b": "c", "c": "b"}.get(window[1], window[1]) if window[0] == "a" and window[2] == "d" else window[1]
            for window in exactly(TWO, 3)
        )
        block = Block(TWO, 1, 1, results)
        self.assertEqual((block.left, block.right), (1, 1))
        self.assertIsNone(fused(block))
        self.assertTrue(undone(block) == block)
        both = block * Block.shift(TWO, -1)
        self.assertTrue(undone(both).around(both.around("abdcad")) == "abdcad")

    def added(self, sides):
        """To row 0 that of row 1 beside it is added, and to row 1 that of row 2 beside it."""
        scheme = Scheme(3, 2)
        results = ""
        for window in exactly(scheme, 3):
            spots = [scheme.spots(column) for column in window]

            def beside(row):
                return sum(int(spots[at][row]) for at in sides)
            first, second = (int(spots[1][0]) + beside(1)) % 2, (int(spots[1][1]) + beside(2)) % 2
            results += scheme.column(f"{first}{second}{spots[1][2]}")
        return Block(scheme, 1, 1, results)

    def test_wider_than_the_block(self):
        block = self.added((2,))
        self.assertEqual((block.left, block.right), (0, 1))
        back = undone(block)
        self.assertEqual((back.left, back.right), (0, 2))
        for strip in ("abcdefgh", "hhgb", "fd", "c"):
            self.assertEqual(back.around(block.around(strip)), strip)
        self.assertTrue(undone(back) == block)

    def test_too_wide(self):
        # The block that takes this one back needs two columns on each side: 8 ** 5 windows.
        block = self.added((0, 2))
        self.assertEqual((block.left, block.right), (1, 1))
        self.assertIsNone(fused(block))
        self.fails(TooWide, {}, undone, block)
