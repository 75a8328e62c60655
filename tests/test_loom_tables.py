"""Points 14 to 16: the least table of a loom, wrong tables, and the ways to make looms."""

import copy
import itertools
import random
import unittest

from galloon.bales import Bale
from galloon.errors import BadPair, BadStrip, BadTable, UnlikeSchemes
from galloon.looms import Loom
from galloon.schemes import Scheme
from tests.helpers import (
    FAR,
    ONE,
    OTHER_KINDS,
    SCHEMES,
    Checked,
    check_least_loom,
    members,
    random_arcs,
    random_rows,
    relation,
    said,
    words,
)

TWO = Scheme(2, 2)


def pairs_up_to(scheme, most):
    """All pairs of strips of the same length of at most so many columns."""
    found = words(scheme, most)
    return {(x, y) for x, y in itertools.product(found, repeat=2) if len(x) == len(y)}


def with_copies(rng, arcs, goods):
    """A table of the same relation in which each state stands three times."""
    many = len(arcs)
    found = [[(arc[0], arc[1], arc[2] + many * rng.randrange(3)) for arc in row] for row in arcs * 3]
    return found, goods * 3


def with_doubled_arcs(rng, arcs, goods):
    """A table of the same relation with several arcs with the same two columns."""
    found, marks = with_copies(rng, arcs, goods)
    return [row + [(read, write, after % len(arcs)) for read, write, after in row] for row in found], marks


def with_unreached(rng, scheme, arcs, goods):
    """A table of the same relation with more states that are not reached."""
    many = len(arcs) + 2
    more = [[(column, "a", rng.randrange(many)) for column in scheme.columns] for _ in range(2)]
    return arcs + more, goods + [True, False]


def with_dead_ends(scheme, arcs, goods):
    """A table of the same relation with arcs to states that lead nowhere."""
    many = len(arcs)
    more = [(read, write, many) for read in scheme.columns for write in scheme.columns]
    return [row + more for row in arcs] + [[("a", "a", many + 1)], [("a", "b", many)]], goods + [False, False]


def mixed_up(rng, arcs, goods):
    """The same table with all states but the first, and all arcs, in another order."""
    order = [0] + rng.sample(range(1, len(arcs)), len(arcs) - 1)
    place = {state: at for at, state in enumerate(order)}
    rows = [[(read, write, place[after]) for read, write, after in arcs[state]] for state in order]
    return [rng.sample(row, len(row)) for row in rows], [goods[state] for state in order]


class LeastTableTest(Checked):
    def table(self, loom, arcs, goods):
        self.assertEqual((loom.arcs, loom.goods), (arcs, goods))

    def test_known_tables(self):
        self.table(Loom.identity(ONE), [[("a", "a", 0), ("b", "b", 0)]], [True])
        self.table(Loom.none(ONE), [[]], [False])
        arcs = [("a", "a", 0), ("a", "b", 0), ("b", "a", 0), ("b", "b", 0)]
        self.table(Loom.every(ONE), [arcs], [True])
        self.table(Loom.of_pairs(ONE, [("", "")]), [[]], [True])
        self.table(
            Loom.of_pairs(ONE, [("ba", "ab"), ("bb", "ab"), ("a", "b")]),
            [[("a", "b", 1), ("b", "a", 2)], [], [("a", "b", 1), ("b", "b", 1)]],
            [False, True, False],
        )

    def test_states_in_the_order_of_the_first_walks(self):
        arcs = [[("b", "a", 1), ("a", "b", 2), ("b", "b", 3)], [("a", "a", 3)], [("a", "a", 1)], [("b", "a", 0)]]
        found = [[("a", "b", 1), ("b", "a", 2), ("b", "b", 3)], [("a", "a", 2)], [("a", "a", 3)], [("b", "a", 0)]]
        self.table(Loom(ONE, arcs, [False, False, False, True]), found, [False, False, False, True])

    def test_several_arcs_with_the_same_two_columns(self):
        arcs = [[("a", "b", 1), ("a", "b", 2)], [("a", "a", 3)], [("b", "b", 3)], []]
        found = [[("a", "b", 1)], [("a", "a", 2), ("b", "b", 2)], []]
        self.table(Loom(ONE, arcs, [False] * 3 + [True]), found, [False, False, True])
        twice = [("a", "a", 0)] * 3
        self.table(Loom(ONE, [twice], [True]), [[("a", "a", 0)]], [True])

    def test_the_loom_that_says_nothing(self):
        every = [(read, write, 0) for read in "ab" for write in "ab"]
        for arcs, goods in [
            ([[]], [False]),
            ([every], [False]),
            ([[("a", "b", 1)], [("a", "a", 0)]], [False, False]),
            ([every, []], [False, True]),
        ]:
            loom = Loom(ONE, arcs, goods)
            self.table(loom, [[]], [False])
            self.assertEqual((len(loom), loom == Loom.none(ONE)), (1, True))

    def test_any_table_is_made_least_and_keeps_its_relation(self):
        rng = random.Random(71)
        for scheme, most, many in zip(SCHEMES, [5, 3, 3, 2, 2], [3, 4, 6, 9, 9]):
            for states in [1, 2, 3, 4, 6] * 4:
                arcs, goods = random_arcs(rng, scheme, states, many)
                loom = Loom(scheme, arcs, goods)
                self.assertEqual(relation(loom, most), said(arcs, goods, most))
                check_least_loom(self, loom)

    def test_tables_of_the_same_relation_give_equal_objects(self):
        rng = random.Random(72)
        for scheme in SCHEMES:
            for states in [1, 2, 4, 7] * 3:
                first = arcs, goods = random_arcs(rng, scheme, states, 3)
                loom = Loom(scheme, arcs, goods)
                for more, marks in [
                    with_copies(rng, *first),
                    with_doubled_arcs(rng, *first),
                    with_unreached(rng, scheme, *first),
                    with_dead_ends(scheme, *first),
                    mixed_up(rng, *first),
                    (loom.arcs, loom.goods),
                    mixed_up(rng, *with_doubled_arcs(rng, *with_dead_ends(scheme, *first))),
                ]:
                    again = Loom(scheme, more, marks)
                    self.assertEqual((again.arcs, again.goods), (loom.arcs, loom.goods))
                    self.assertIs(again == loom, True)
                    self.assertIs(again != loom, False)
                    self.assertEqual(len(again), len(loom))

    def test_sets_of_states(self):
        # From state 0 on, an arc with a and b begins what says b in all of the last nine columns.
        loop = [("a", "a", 0), ("a", "b", 0), ("a", "b", 1)]
        chain = [[("a", "a", at + 1), ("a", "b", at + 1)] for at in range(1, 9)] + [[]]
        loom = Loom(ONE, [loop] + chain, [False] * 9 + [True])
        self.assertEqual(len(loom), 2 ** 9)
        self.assertEqual(loom.count_outs("a" * 40), 2 ** 39)

    def test_attributes(self):
        for scheme in SCHEMES:
            loom = Loom.identity(scheme)
            self.assertEqual(loom.scheme, scheme)
            self.assertEqual(loom.arcs, [[(column, column, 0) for column in scheme.columns]])
            self.assertEqual(loom.goods, [True])
        self.assertEqual(Loom.MOST_OUTS, 200)


class EqualTest(Checked):
    def test_equal_exactly_if_they_say_the_same(self):
        rng = random.Random(73)
        looms = [Loom(ONE, *random_arcs(rng, ONE, 2, 2)) for _ in range(50)]
        for one in looms:
            for other in looms:
                self.assertIs(one == other, relation(one, 5) == relation(other, 5))

    def test_unlike_schemes_and_other_kinds_are_not_equal(self):
        for one in SCHEMES:
            for other in SCHEMES:
                self.assertIs(Loom.none(one) == Loom.none(other), one == other)
                self.assertIs(Loom.identity(one) != Loom.identity(other), one != other)
        for other in OTHER_KINDS + [ONE, Bale.none(ONE)]:
            self.assertIs(Loom.none(ONE) == other, False)
            self.assertIs(Bale.none(ONE) == Loom.none(ONE), False)
            self.assertIs(Loom.none(ONE) != other, True)


class BadTableTest(Checked):
    def bad(self, place, arcs, goods):
        self.fails(BadTable, {"place": place}, Loom, ONE, arcs, goods)

    def test_no_states_or_goods_of_another_length(self):
        for arcs, goods in [
            ([], []),
            ([], [True]),
            ([[]], []),
            ([[]], [True, False]),
            ([[], []], [True]),
            ([[("z", "a", 9)]], []),
        ]:
            self.bad(-1, arcs, goods)

    def test_the_first_wrong_state(self):
        good = ("a", "b", 1)
        for arc in [
            ("c", "a", 0), ("a", "c", 0), ("", "a", 0), ("a", "", 0), ("ab", "a", 0), ("a", "ab", 0), ("A", "a", 0),
            ("a", "a", 2), ("a", "a", -1), ("a", "a", FAR), ("a", "a", -FAR), ("a", "0", 0), ("c", "c", 9),
        ]:
            self.bad(0, [[arc], []], [True, True])
            self.bad(0, [[good, arc], []], [True, True])
            self.bad(1, [[good], [good, arc]], [True, True])
            self.bad(1, [[], [arc]], [False, False])
            self.bad(0, [[arc], [arc]], [True, True])

    def test_all_five_schemes(self):
        for scheme in SCHEMES:
            beyond = "abcdefghij"[len(scheme)]
            self.fails(BadTable, {"place": 0}, Loom, scheme, [[("a", beyond, 0)]], [True])
            last = scheme.columns[-1]
            self.assertIs(Loom(scheme, [[(last, "a", 0)]], [True]).says(last, "a"), True)


class ClassMethodsTest(Checked):
    def test_identity_every_and_none(self):
        for scheme, most in zip(SCHEMES, [4, 3, 3, 2, 2]):
            pairs = pairs_up_to(scheme, most)
            self.assertEqual(relation(Loom.identity(scheme), most), {pair for pair in pairs if pair[0] == pair[1]})
            self.assertEqual(relation(Loom.every(scheme), most), pairs)
            self.assertEqual(relation(Loom.none(scheme), most), set())
            for loom in [Loom.identity(scheme), Loom.every(scheme), Loom.none(scheme)]:
                check_least_loom(self, loom)

    def test_of_pairs(self):
        rng = random.Random(74)
        for scheme in SCHEMES:
            pairs = sorted(pairs_up_to(scheme, 2))
            for many in [0, 1, 2, 5, 20]:
                chosen = [rng.choice(pairs) for _ in range(many)]
                loom = Loom.of_pairs(scheme, chosen)
                self.assertEqual(relation(loom, 3), set(chosen))
                check_least_loom(self, loom)
        long = [("ab" * 20, "b" * 40), ("b" * 40, "a" * 40)]
        self.assertEqual(relation(Loom.of_pairs(ONE, long), 41), set(long))

    def test_of_pairs_errors(self):
        good = ("ab", "bb")
        for pairs, text in [
            ([("c", "d")], "c"),
            ([("a", "d")], "d"),
            ([("c", "dd")], "c"),
            ([("a", "dd")], "dd"),
            ([good, ("a", "x"), ("a", "bb")], "x"),
        ]:
            self.fails(BadStrip, {"text": text}, Loom.of_pairs, ONE, pairs)
        for pairs, index in [
            ([("a", "")], 0),
            ([good, ("ab", "b")], 1),
            ([good, good, ("a", "ab"), ("x", "y")], 2),
            ([good, ("", "a"), ("a", "bb")], 1),
        ]:
            self.fails(BadPair, {"index": index}, Loom.of_pairs, ONE, pairs)

    def test_crossed(self):
        rng = random.Random(75)
        for scheme, most in zip(SCHEMES, [4, 3, 3, 2, 2]):
            bales = [Bale.none(scheme), Bale.every(scheme)]
            bales += [Bale(scheme, *random_rows(rng, scheme, 3)) for _ in range(5 if len(scheme) < 5 else 2)]
            for first, second in itertools.product(bales, repeat=2):
                loom = Loom.crossed(first, second)
                pairs = {(x, y) for x in members(first, most) for y in members(second, most) if len(x) == len(y)}
                self.assertEqual(relation(loom, most), pairs)
                check_least_loom(self, loom)
        self.assertEqual(Loom.crossed(Bale.every(ONE), Bale.every(ONE)), Loom.every(ONE))

    def test_crossed_takes_bales_of_one_scheme(self):
        for one, other in itertools.permutations(SCHEMES, 2):
            self.fails(UnlikeSchemes, {}, Loom.crossed, Bale.none(one), Bale.every(other))


class CopiesTest(Checked):
    def test_what_is_passed_is_not_changed_or_kept(self):
        arcs = [[("b", "a", 0), ("a", "b", 1), ("a", "b", 0)], [("a", "a", 0), ("a", "a", 0)]]
        goods = [False, True]
        passed = copy.deepcopy((arcs, goods))
        loom = Loom(ONE, arcs, goods)
        told = copy.deepcopy((loom.arcs, loom.goods))
        self.assertEqual((arcs, goods), passed)
        arcs[0].clear()
        arcs.append([])
        goods[1] = False
        goods.clear()
        self.assertEqual((loom.arcs, loom.goods), told)
        self.assertIs(loom.says("a", "b"), True)

    def test_a_least_table_is_copied_too(self):
        arcs, goods = [[("a", "b", 0)]], [True]
        loom = Loom(ONE, arcs, goods)
        self.assertEqual((loom.arcs, loom.goods), (arcs, goods))
        arcs[0].append(("b", "b", 0))
        goods[0] = False
        self.assertEqual((loom.arcs, loom.goods), ([[("a", "b", 0)]], [True]))

    def test_of_pairs_leaves_its_list_alone(self):
        pairs = [("b", "a"), ("a", "b"), ("b", "a")]
        loom = Loom.of_pairs(ONE, pairs)
        self.assertEqual(pairs, [("b", "a"), ("a", "b"), ("b", "a")])
        pairs.append(("", ""))
        self.assertEqual(relation(loom, 2), {("b", "a"), ("a", "b")})


if __name__ == "__main__":
    unittest.main()
