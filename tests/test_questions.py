"""Points 20 to 22: the questions about all strips, compared with plain trying of short ones."""

import random

from galloon.bales import Bale
from galloon.errors import BadCount, BadRow, UnlikeSchemes
from galloon.looms import Loom
from galloon.questions import cycle, left_out, lost_row, melted, parted, several, unreached
from galloon.schemes import Scheme
from tests.helpers import FAR, ONE, Checked, members, random_arcs, random_rows, relation, words

TWO = Scheme(2, 2)
THREE = Scheme(1, 3)
MOST = {"ab": 5, "abc": 3, "abcd": 3}
# A loom of two rings: of strips of 7, 14 .. columns it makes the same, of 1, 12, 23 .. columns others.
RINGS = (7, 11)


def random_looms(seed, many):
    """Some small looms and bales of three schemes, with the length up to which strips are tried."""
    rng = random.Random(seed)
    for scheme in (ONE, THREE, TWO):
        for _ in range(many):
            loom = Loom(scheme, *random_arcs(rng, scheme, rng.choice((1, 2, 3)), rng.choice((1, 2, 4))))
            bale = Bale(scheme, *random_rows(rng, scheme, rng.choice((1, 2, 3))))
            yield rng, scheme, MOST[scheme.columns], loom, rng.choice((bale, Bale.every(scheme)))


def two_rings(scheme, letter):
    """A loom that says two strips for `a` * n first where n is 0 modulo 7 and 1 modulo 11."""
    one, other = RINGS
    arcs = [[("a", "a", 1), ("a", letter, one + 1)]]
    arcs += [[("a", "a", at % one + 1)] for at in range(1, one + 1)]
    arcs += [[("a", letter, one + 1 + at % other)] for at in range(1, other + 1)]
    goods = [False] + [at == one for at in range(1, one + 1)] + [at == 1 for at in range(1, other + 1)]
    return Loom(scheme, arcs, goods)


def gathered(pairs):
    """For each strip the sorted list of those beside it in the pairs, in shortlex order."""
    found = {}
    for one, other in sorted(pairs, key=lambda pair: (len(pair[0]), pair)):
        found.setdefault(one, []).append(other)
    return found


def row_of(scheme, strip, row):
    return scheme.picture(strip)[row]


def plain_several(pairs):
    for strip, outs in gathered(pairs).items():
        if len(outs) > 1:
            return (strip, outs[0], outs[1])
    return None


def plain_lost(scheme, pairs, row):
    for out, befores in gathered((y, x) for x, y in pairs).items():
        for other in befores:
            if row_of(scheme, other, row) != row_of(scheme, befores[0], row):
                return (out, befores[0], other)
    return None


def can_part(loom, bale, read_at, mark):
    """Can two walks through a loom on a bale have the same columns at `read_at`, but other marks?

    All pairs of walks of any length are followed at once.
    """
    columns = loom.scheme.columns
    begin = ((0, 0), (0, 0), False)
    seen, waiting = {begin}, [begin]

    def steps(place):
        for arc in loom.arcs[place[0]]:
            after = bale.rows[place[1]][columns.index(arc[0])]
            if after >= 0:
                yield arc, (arc[2], after)

    def good(place):
        return loom.goods[place[0]] and bale.goods[place[1]]

    while waiting:
        one, other, apart = waiting.pop()
        if apart and good(one) and good(other):
            return True
        for left, after in steps(one):
            for right, beyond in steps(other):
                if left[read_at] == right[read_at]:
                    here = mark(left[1 - read_at]) != mark(right[1 - read_at])
                    fresh = (after, beyond, apart or here)
                    if fresh not in seen:
                        seen.add(fresh)
                        waiting.append(fresh)
    return False


class SeveralTest(Checked):
    def test_plain_trying(self):
        kinds = set()
        for _, scheme, most, loom, _ in random_looms(200, 60):
            found = several(loom)
            kinds.add(found is None)
            self.assertEqual(found is not None, can_part(loom, Bale.every(scheme), 0, str))
            plain = plain_several(relation(loom, most))
            if found is None or len(found[0]) <= most:
                self.assertEqual(found, plain)
            else:
                self.assertIsNone(plain)
                self.assertEqual(loom.first_out(found[0]), found[1])
        self.assertEqual(kinds, {True, False})

    def test_certain_looms(self):
        for scheme in (ONE, TWO):
            self.assertIsNone(several(Loom.identity(scheme)))
            self.assertIsNone(several(Loom.none(scheme)))
        # Two walks that read the same and write the same are no two strips.
        self.assertIsNone(several(Loom(ONE, [[("a", "b", 1), ("a", "b", 0)], [("b", "b", 1)]], [True, True])))
        # A walk that parts comes to no good end, for strips of any length.
        guess = [[("a", "a", 1), ("a", "b", 2)], [("a", "a", 1), ("b", "a", 3)], [("a", "b", 2), ("b", "b", 4)]]
        last = [[("a", "a", 5)], [("b", "a", 5)], []]
        self.assertIsNone(several(Loom(ONE, guess + last, [False] * 5 + [True])))

    def test_the_first_strip_of_all(self):
        every = Loom.every(TWO)
        self.assertEqual(several(every), ("a", "a", "b"))
        self.assertEqual(several(every.on(Bale.shaped(TWO, "d.*"))), ("d", "a", "b"))
        self.assertEqual(several(every.into(Bale.shaped(TWO, "[bd]c?"))), ("a", "b", "d"))
        # The last column alone may become anything: more than one strip for a strip of one column.
        loom = Loom(ONE, [[("b", "b", 0), ("a", "a", 1), ("a", "b", 1)], []], [False, True])
        self.assertEqual(several(loom), ("a", "a", "b"))

    def test_the_first_two_strips_stand_beside_it_however_many_there_are(self):
        loom = Loom.every(TWO).on(Bale.shaped(TWO, "c......."))
        self.assertEqual(several(loom), ("caaaaaaa", "aaaaaaaa", "aaaaaaab"))
        pairs = [("ab", "bb"), ("ab", "ba"), ("ab", "aa"), ("ba", "aa"), ("bbb", "aaa"), ("b", "a")]
        self.assertEqual(several(Loom.of_pairs(ONE, pairs)), ("ab", "aa", "ba"))

    def test_a_far_first_strip(self):
        self.assertEqual(several(two_rings(ONE, "b")), ("a" * 56, "a" * 56, "b" * 56))
        self.assertEqual(several(two_rings(ONE, "b") - Loom.of_pairs(ONE, [("a" * 56, "b" * 56)])),
                         ("a" * 133, "a" * 133, "b" * 133))
        self.assertIsNone(several(two_rings(ONE, "b").on(Bale.shaped(ONE, "(aaaaaaa)*").cut(1, 0))))

    def test_a_loom_that_is_a_result(self):
        loom = Loom.every(ONE).on(Bale.showing(ONE, "b", 9, from_end=True))
        self.assertEqual(several(loom), ("baaaaaaaaa", "a" * 10, "a" * 9 + "b"))


class MeltedTest(Checked):
    def test_plain_trying(self):
        kinds = set()
        for _, _, most, loom, bale in random_looms(210, 60):
            found = melted(loom, bale)
            kinds.add(found is None)
            self.assertEqual(found is not None, can_part(loom, bale, 1, str))
            plain = plain_several((y, x) for x, y in relation(loom, most) if x in bale)
            if found is None or len(found[0]) <= most:
                self.assertEqual(found, plain)
            else:
                self.assertIsNone(plain)
                self.assertTrue(all(loom.says(text, found[0]) and text in bale for text in found[1:]))
        self.assertEqual(kinds, {True, False})

    def test_known_answers(self):
        flat = Loom(ONE, [[("a", "a", 0), ("b", "a", 0)]], [True])
        self.assertEqual(melted(flat, Bale.every(ONE)), ("a", "a", "b"))
        self.assertEqual(melted(flat, Bale.shaped(ONE, "b.*")), ("aa", "ba", "bb"))
        self.assertIsNone(melted(flat, Bale.shaped(ONE, "a*")))
        self.assertIsNone(melted(flat, Bale.none(ONE)))
        self.assertIsNone(melted(Loom.identity(ONE), Bale.every(ONE)))
        # The same strip of the bale, said twice, does not melt with itself.
        self.assertIsNone(melted(Loom.every(ONE), Bale.shaped(ONE, "a*")))

    def test_a_far_first_strip(self):
        loom = ~two_rings(ONE, "b")
        self.assertEqual(melted(loom, Bale.every(ONE)), ("a" * 56, "a" * 56, "b" * 56))
        self.assertIsNone(melted(loom, Bale.shaped(ONE, "a*")))

    def test_unlike_schemes(self):
        self.fails(UnlikeSchemes, {}, melted, Loom.every(ONE), Bale.every(TWO))


class LostRowTest(Checked):
    def test_plain_trying(self):
        kinds = set()
        for rng, scheme, most, loom, bale in random_looms(220, 80):
            row = rng.randrange(scheme.rows)
            found = lost_row(loom, bale, row)
            kinds.add((scheme.rows, found is None))
            self.assertEqual(
                found is not None, can_part(loom, bale, 1, lambda column: scheme.spots(column)[row])
            )
            plain = plain_lost(scheme, [(x, y) for x, y in relation(loom, most) if x in bale], row)
            if found is None or len(found[0]) <= most:
                self.assertEqual(found, plain)
            else:
                self.assertIsNone(plain)
                self.assertTrue(all(loom.says(text, found[0]) and text in bale for text in found[1:]))
                self.assertNotEqual(row_of(scheme, found[1], row), row_of(scheme, found[2], row))
        self.assertEqual(kinds, {(1, True), (1, False), (2, True), (2, False)})

    def test_one_row_is_lost_and_the_other_is_not(self):
        # The lower row becomes blank, the upper one stays.
        loom = Loom(TWO, [[("a", "a", 0), ("b", "a", 0), ("c", "c", 0), ("d", "c", 0)]], [True])
        every = Bale.every(TWO)
        self.assertIsNone(lost_row(loom, every, 0))
        self.assertEqual(lost_row(loom, every, 1), ("a", "a", "b"))
        self.assertIsNone(lost_row(loom, Bale.shaped(TWO, "[bc]*"), 1))
        self.assertEqual(lost_row(loom, Bale.shaped(TWO, "[ad][ab]*"), 1), ("aa", "aa", "ab"))

    def test_the_other_strip_need_not_be_the_second_one(self):
        # Of `a`, `b`, `c` and `d` alike it makes `a`; the upper row of `b` is that of `a`.
        loom = Loom(TWO, [[(column, "a", 0) for column in "abcd"]], [True])
        self.assertEqual(lost_row(loom, Bale.every(TWO), 0), ("a", "a", "c"))
        self.assertEqual(lost_row(loom, Bale.every(TWO), 1), ("a", "a", "b"))
        self.assertEqual(lost_row(loom, Bale.shaped(TWO, "a[abc]"), 0), ("aa", "aa", "ac"))

    def test_far_answers(self):
        loom = ~two_rings(TWO, "c")
        self.assertEqual(lost_row(loom, Bale.every(TWO), 0), ("a" * 56, "a" * 56, "c" * 56))
        self.assertIsNone(lost_row(loom, Bale.every(TWO), 1))

    def test_errors(self):
        loom, bale = Loom.identity(TWO), Bale.every(TWO)
        for row in (-1, 2, FAR, -FAR):
            self.fails(BadRow, {"row": row}, lost_row, loom, bale, row)
        self.fails(BadRow, {"row": 1}, lost_row, Loom.none(ONE), Bale.none(ONE), 1)
        self.fails(UnlikeSchemes, {}, lost_row, loom, Bale.every(ONE), 2)


class LeftOutTest(Checked):
    def test_plain_trying(self):
        kinds = set()
        for _, _, most, loom, bale in random_looms(230, 60):
            found = left_out(loom, bale)
            kinds.add(found is None)
            self.assertEqual(found is None, bale.within(loom.domain()))
            before = {x for x, _ in relation(loom, most)}
            plain = [text for text in members(bale, most) if text not in before]
            if found is None or len(found) <= most:
                self.assertEqual([found] if found is not None else [], plain[:1])
            else:
                self.assertEqual(plain, [])
                self.assertEqual(loom.count_outs(found), 0)
                self.assertIn(found, bale)
        self.assertEqual(kinds, {True, False})

    def test_known_answers(self):
        self.assertIsNone(left_out(Loom.identity(ONE), Bale.every(ONE)))
        self.assertEqual(left_out(Loom.none(ONE), Bale.every(ONE)), "")
        self.assertIsNone(left_out(Loom.none(ONE), Bale.none(ONE)))
        self.assertEqual(left_out(Loom.identity(ONE).framed(2, 1), Bale.shaped(ONE, "b*")), "")
        self.assertEqual(left_out(Loom.identity(ONE).framed(2, 1), Bale.shaped(ONE, "b.*")), "b")
        self.assertIsNone(left_out(Loom.identity(ONE).framed(2, 1), Bale.shaped(ONE, "...+")))

    def test_a_far_first_strip(self):
        # It says something for all numbers of columns but those that 7 and 11 divide.
        arcs = [[("a", "a", 1), ("a", "b", 8)]]
        arcs += [[("a", "a", at % 7 + 1)] for at in range(1, 8)] + [[("a", "b", 8 + at % 11)] for at in range(1, 12)]
        loom = Loom(ONE, arcs, [True] + [at < 7 for at in range(1, 8)] + [at < 11 for at in range(1, 12)])
        self.assertEqual(left_out(loom, Bale.shaped(ONE, "a*")), "a" * 77)
        self.assertEqual(unreached(~loom, Bale.every(ONE), Bale.shaped(ONE, "a*")), "a" * 77)
        self.assertEqual(left_out(loom, Bale.shaped(ONE, "(aaaaa)*")), "a" * 385)
        self.assertIsNone(left_out(loom, Bale.shaped(ONE, "(aaaaaaa)*a")))

    def test_the_search_ends_at_the_first_strip(self):
        # There are more sets of states than could be met, but the first strip is near.
        arcs = [[("a", "a", 0), ("b", "b", 0), ("b", "a", 1)]]
        arcs += [[("a", "a", at + 1), ("b", "b", at + 1)] for at in range(1, 39)] + [[("a", "a", 0)]]
        loom = Loom(ONE, arcs, [at != 3 and at != 0 for at in range(40)])
        self.assertEqual(left_out(loom, Bale.every(ONE)), "")
        self.assertEqual(left_out(loom, Bale.shaped(ONE, "b.*")), "baa")

    def test_unlike_schemes(self):
        self.fails(UnlikeSchemes, {}, left_out, Loom.every(ONE), Bale.every(TWO))


class UnreachedTest(Checked):
    def test_plain_trying(self):
        kinds = set()
        for rng, scheme, most, loom, bale in random_looms(240, 60):
            wanted = Bale(scheme, *random_rows(rng, scheme, rng.choice((1, 2))))
            found = unreached(loom, bale, wanted)
            kinds.add(found is None)
            self.assertEqual(found is None, wanted.within(loom.image(bale)))
            after = {y for x, y in relation(loom, most) if x in bale}
            plain = [text for text in members(wanted, most) if text not in after]
            if found is None or len(found) <= most:
                self.assertEqual([found] if found is not None else [], plain[:1])
            else:
                self.assertEqual(plain, [])
                self.assertIn(found, wanted)
        self.assertEqual(kinds, {True, False})

    def test_known_answers(self):
        every = Bale.every(ONE)
        swap = Loom(ONE, [[("a", "b", 0), ("b", "a", 0)]], [True])
        self.assertIsNone(unreached(swap, every, every))
        self.assertEqual(unreached(swap, Bale.shaped(ONE, "a*"), every), "a")
        self.assertEqual(unreached(swap, Bale.none(ONE), every), "")
        self.assertIsNone(unreached(swap, Bale.none(ONE), Bale.none(ONE)))
        self.assertEqual(unreached(swap, Bale.shaped(ONE, "a*"), Bale.shaped(ONE, "bb.+")), "bba")

    def test_unlike_schemes(self):
        one, two = Bale.every(ONE), Bale.every(TWO)
        self.fails(UnlikeSchemes, {}, unreached, Loom.every(ONE), two, one)
        self.fails(UnlikeSchemes, {}, unreached, Loom.every(ONE), one, two)
        self.fails(UnlikeSchemes, {}, unreached, Loom.every(ONE), two, two)


class PartedTest(Checked):
    def test_plain_trying(self):
        kinds = set()
        for rng, scheme, most, first, bale in random_looms(250, 60):
            second = Loom(scheme, *random_arcs(rng, scheme, 2)) & first if rng.random() < 0.5 else first
            second = rng.choice((second, Loom(scheme, *random_arcs(rng, scheme, 2, 2)), first.on(bale)))
            found = parted(first, second, bale)
            self.assertEqual(found, parted(second, first, bale))
            kinds.add(found is None)
            self.assertEqual(found is None, first.on(bale) == second.on(bale))
            apart = [pair for pair in relation(first, most) ^ relation(second, most) if pair[0] in bale]
            apart = sorted(apart, key=lambda pair: (len(pair[0]), pair))
            if found is None or len(found[0]) <= most:
                self.assertEqual([found] if found is not None else [], apart[:1])
            else:
                self.assertEqual(apart, [])
                self.assertNotEqual(first.says(*found), second.says(*found))
        self.assertEqual(kinds, {True, False})

    def test_known_answers(self):
        every, same = Loom.every(ONE), Loom.identity(ONE)
        self.assertEqual(parted(every, same, Bale.every(ONE)), ("a", "b"))
        self.assertEqual(parted(same, every, Bale.shaped(ONE, "bb*")), ("b", "a"))
        self.assertIsNone(parted(same, every, Bale.listed(ONE, [""])))
        self.assertIsNone(parted(same, every, Bale.none(ONE)))
        self.assertEqual(parted(same, Loom.none(ONE), Bale.every(ONE)), ("", ""))
        self.assertEqual(parted(same, same - Loom.of_pairs(ONE, [("abab", "abab")]), Bale.every(ONE)), ("abab", "abab"))

    def test_far_answers(self):
        ring = two_rings(ONE, "b")
        both = Bale.listed(ONE, ["a" * 133])
        self.assertEqual(parted(ring, ring - ring.on(both), Bale.every(ONE)), ("a" * 133, "a" * 133))
        self.assertIsNone(parted(ring, ring - ring.on(both), ~both))

    def test_unlike_schemes(self):
        one, two, bale = Loom.every(ONE), Loom.every(TWO), Bale.every(ONE)
        self.fails(UnlikeSchemes, {}, parted, one, two, bale)
        self.fails(UnlikeSchemes, {}, parted, one, one, Bale.every(TWO))
        self.fails(UnlikeSchemes, {}, parted, two, two, bale)


class CycleTest(Checked):
    def plain(self, loom, most):
        powers = [loom.repeated(times) for times in range(most + 1)]
        for total in range(1, most + 1):
            for before in range(total):
                if powers[before] == powers[total]:
                    return (before, total - before)
        return None

    def test_plain_trying(self):
        kinds, rng = set(), random.Random(260)
        for scheme in (ONE, THREE, TWO):
            for _ in range(30):
                loom = Loom(scheme, *random_arcs(rng, scheme, rng.choice((1, 2)), rng.choice((1, 2))))
                for most in (1, 2, 4):
                    found = cycle(loom, most)
                    kinds.add(found)
                    self.assertEqual(found, self.plain(loom, most))
        self.assertGreater(len(kinds), 3)

    def test_known_answers(self):
        turning = Loom(THREE, [[("a", "b", 0), ("b", "c", 0), ("c", "a", 0)]], [True])
        sinking = Loom(THREE, [[("a", "a", 0), ("b", "a", 0), ("c", "b", 0)]], [True])
        for loom, known in [
            (Loom.identity(THREE), (0, 1)), (Loom.none(THREE), (1, 1)), (Loom.every(THREE), (1, 1)),
            (turning, (0, 3)), (sinking, (2, 1)),
            (Loom(THREE, [[("a", "b", 0), ("b", "a", 0), ("c", "a", 0)]], [True]), (1, 2)),
        ]:
            for most in range(1, 13):
                self.assertEqual(cycle(loom, most), known if sum(known) <= most else None)
        self.assertEqual(cycle(Loom.identity(ONE), FAR), (0, 1))

    def test_a_loom_whose_powers_never_come_back(self):
        # It turns the first `a` of a strip into `b`.
        loom = Loom(ONE, [[("b", "b", 0), ("a", "b", 1)], [("a", "a", 1), ("b", "b", 1)]], [True, True])
        self.assertIsNone(cycle(loom, 12))

    def test_errors(self):
        for most in (0, -1, -FAR):
            self.fails(BadCount, {"count": most}, cycle, Loom.identity(ONE), most)


class KindsTest(Checked):
    def test_kinds_of_results(self):
        loom, bale = Loom.every(TWO), Bale.every(TWO)
        for found, size in [
            (several(loom), 3), (melted(loom, bale), 3), (lost_row(loom, bale, 0), 3),
            (parted(loom, Loom.none(TWO), bale), 2), (cycle(loom, 3), 2),
        ]:
            self.assertIs(found.__class__, tuple)
            self.assertEqual(len(found), size)

    def test_nothing_is_changed(self):
        loom, bale = Loom.every(TWO), Bale.shaped(TWO, "a*")
        told = repr((loom.arcs, loom.goods, bale.rows, bale.goods))
        several(loom), melted(loom, bale), lost_row(loom, bale, 0), left_out(loom, bale)
        unreached(loom, bale, bale), parted(loom, loom, bale), cycle(loom, 2)
        self.assertEqual(repr((loom.arcs, loom.goods, bale.rows, bale.goods)), told)

    def test_words_are_in_order(self):
        self.assertEqual(words(ONE, 2), ["", "a", "b", "aa", "ab", "ba", "bb"])
