"""Points 9 and 10: the least table of a bale, wrong tables, and the ways to make bales."""

import copy
import itertools
import random
import unittest

from galloon.bales import Bale
from galloon.errors import BadIndex, BadStrip, BadTable
from galloon.schemes import Scheme
from tests.helpers import (
    FAR,
    ONE,
    OTHER_KINDS,
    SCHEMES,
    Checked,
    accepted,
    check_least_bale,
    members,
    random_rows,
    words,
)

TWO = Scheme(2, 2)


def with_copies(rng, rows, goods):
    """A table of the same strips in which each state but the first stands more than once."""
    many = len(rows)
    twins = {state: [state, many + state, 2 * many + state] for state in range(many)}
    found = [[step if step == -1 else rng.choice(twins[step]) for step in row] for row in rows * 3]
    return found, goods * 3


def with_unreached(rng, scheme, rows, goods):
    """A table of the same strips with more states that are not reached."""
    many = len(rows) + 3
    more = [[rng.randrange(-1, many) for _ in scheme.columns] for _ in range(3)]
    return rows + more, goods + [True, False, True]


def with_dead_ends(rng, scheme, rows, goods):
    """A table of the same strips in which most steps of -1 lead to states that lead nowhere."""
    many = len(rows)
    steps = [[rng.choice([-1, many, many + 1]) if step == -1 else step for step in row] for row in rows]
    ends = [[many + 1] * len(scheme), [many] + [-1] * (len(scheme) - 1)]
    return steps + ends, goods + [False, False]


def mixed_up(rng, rows, goods):
    """The same table with all states but the first in another order."""
    order = [0] + rng.sample(range(1, len(rows)), len(rows) - 1)
    place = {state: at for at, state in enumerate(order)}
    place[-1] = -1
    return [[place[step] for step in rows[state]] for state in order], [goods[state] for state in order]


class LeastTableTest(Checked):
    def table(self, bale, rows, goods):
        self.assertEqual((bale.rows, bale.goods), (rows, goods))

    def test_known_tables(self):
        self.table(Bale.every(ONE), [[0, 0]], [True])
        self.table(Bale.none(ONE), [[-1, -1]], [False])
        self.table(Bale.listed(ONE, [""]), [[-1, -1]], [True])
        self.table(Bale.listed(ONE, ["ab"]), [[1, -1], [-1, 2], [-1, -1]], [False, False, True])
        self.table(Bale.shaped(ONE, "b|aa"), [[1, 2], [2, -1], [-1, -1]], [False, False, True])
        self.table(Bale.shaped(ONE, "(ab)*"), [[1, -1], [-1, 0]], [True, False])
        self.table(Bale.shaped(TWO, "d|a[bc]*"), [[1, -1, -1, 2], [-1, 1, 1, -1], [-1] * 4], [False, True, True])

    def test_states_in_the_order_of_the_first_strips(self):
        rows = [[3, 2], [1, 1], [4, 4], [2, 1], [4, 3]]
        found = Bale(ONE, rows, [False, True, False, False, False])
        self.table(found, [[1, 2], [2, 3], [4, 4], [3, 3], [4, 1]], [False, False, False, True, False])
        rows = [[2, 1], [3, 3], [3, 1], [0, -1]]
        found = Bale(ONE, rows, [False, False, True, False])
        self.table(found, [[1, 2], [3, 2], [3, 3], [0, -1]], [False, True, False, False])

    def test_the_empty_bale(self):
        for rows, goods in [
            ([[0, 0]], [False]),
            ([[1, 0], [0, 1]], [False, False]),
            ([[-1, 0], [1, 1]], [False, True]),
            ([[1, 2], [-1, 2], [1, -1], [3, 3]], [False, False, False, True]),
        ]:
            self.table(Bale(ONE, rows, goods), [[-1, -1]], [False])
        for scheme in SCHEMES:
            self.table(Bale.none(scheme), [[-1] * len(scheme)], [False])
            self.assertEqual(Bale(scheme, [[0] * len(scheme)], [False]), Bale.none(scheme))

    def test_any_table_is_made_least_and_keeps_its_strips(self):
        rng = random.Random(11)
        for scheme, most in zip(SCHEMES, [6, 4, 4, 3, 3]):
            for states in [1, 2, 3, 5, 8] * 6:
                rows, goods = random_rows(rng, scheme, states)
                bale = Bale(scheme, rows, goods)
                self.assertEqual(members(bale, most), accepted(scheme, rows, goods, most))
                self.assertEqual(members(bale, most), accepted(scheme, bale.rows, bale.goods, most))
                check_least_bale(self, bale)

    def test_tables_of_the_same_strips_give_equal_objects(self):
        rng = random.Random(12)
        for scheme in SCHEMES:
            for states in [1, 2, 4, 7, 12] * 3:
                first = rows, goods = random_rows(rng, scheme, states)
                bale = Bale(scheme, rows, goods)
                tables = [
                    with_copies(rng, *first),
                    with_unreached(rng, scheme, *first),
                    with_dead_ends(rng, scheme, *first),
                    mixed_up(rng, *first),
                    (bale.rows, bale.goods),
                    mixed_up(rng, *with_copies(rng, *with_dead_ends(rng, scheme, *first))),
                ]
                for more, marks in tables:
                    again = Bale(scheme, more, marks)
                    self.assertEqual((again.rows, again.goods), (bale.rows, bale.goods))
                    self.assertIs(again == bale, True)
                    self.assertIs(again != bale, False)

    def test_sparse_tables(self):
        rng = random.Random(15)
        for scheme in SCHEMES[:3]:
            for holes, chance in itertools.product([0.3, 0.5, 0.6, 0.7], [0.1, 0.5, 0.9]):
                for states in [5, 10, 20, 40] * 3:
                    rows, goods = random_rows(rng, scheme, states, holes)
                    goods = [rng.random() < chance for _ in goods]
                    bale = Bale(scheme, rows, goods)
                    self.assertEqual(members(bale, 4), accepted(scheme, rows, goods, 4))
                    check_least_bale(self, bale)
                    self.assertEqual(Bale(scheme, *mixed_up(rng, *with_copies(rng, rows, goods))), bale)

    def test_large_tables(self):
        wheel = [[at + 1, -1] for at in range(2000)] + [[0, -1]]
        bale = Bale(ONE, wheel, [True] + [False] * 2000)
        self.assertEqual((len(bale.rows), bale.how_many(60), bale.lengths()[1]), (2001, 0, 2001))
        self.assertEqual(Bale(ONE, wheel, [True] * 2001), Bale.shaped(ONE, "a*"))

    def test_attributes(self):
        for scheme in SCHEMES:
            bale = Bale(scheme, [[0] * len(scheme)], [True])
            self.assertEqual(bale.scheme, scheme)
            self.assertEqual((bale.rows, bale.goods), ([[0] * len(scheme)], [True]))


class EqualTest(Checked):
    def test_equal_exactly_if_the_strips_are_equal(self):
        rng = random.Random(13)
        bales = [Bale(ONE, *random_rows(rng, ONE, 2)) for _ in range(60)]
        for one in bales:
            for other in bales:
                self.assertIs(one == other, members(one, 5) == members(other, 5))

    def test_unlike_schemes_and_other_kinds_are_not_equal(self):
        for one in SCHEMES:
            for other in SCHEMES:
                self.assertIs(Bale.none(one) == Bale.none(other), one == other)
                self.assertIs(Bale.every(one) != Bale.every(other), one != other)
        for other in OTHER_KINDS + [ONE]:
            self.assertIs(Bale.every(ONE) == other, False)
            self.assertIs(Bale.none(ONE) != other, True)


class BadTableTest(Checked):
    def bad(self, place, rows, goods):
        self.fails(BadTable, {"place": place}, Bale, ONE, rows, goods)

    def test_no_states_or_goods_of_another_length(self):
        for rows, goods in [
            ([], []),
            ([], [True]),
            ([[0, 0]], []),
            ([[0, 0]], [True, False]),
            ([[0, 0], [0, 0]], [True]),
            ([[9]], []),
        ]:
            self.bad(-1, rows, goods)

    def test_the_first_wrong_state(self):
        for row in [[], [0], [0, 0, 0], [0, 2], [2, 0], [-2, 0], [0, -2], [FAR, 0], [0, -FAR]]:
            self.bad(0, [row, [0, 0]], [True, False])
            self.bad(1, [[0, 0], row], [True, False])
            self.bad(0, [row, [5]], [True, False])
            self.bad(1, [[-1, -1], row], [False, False])

    def test_all_five_schemes(self):
        for scheme in SCHEMES:
            for width in [0, len(scheme) - 1, len(scheme) + 1]:
                self.fails(BadTable, {"place": 0}, Bale, scheme, [[0] * width], [True])


class ClassMethodsTest(Checked):
    def test_every_and_none(self):
        for scheme in SCHEMES:
            self.assertEqual(members(Bale.every(scheme), 3), words(scheme, 3))
            self.assertEqual(members(Bale.none(scheme), 3), [])

    def test_listed(self):
        rng = random.Random(14)
        for scheme in SCHEMES:
            for many in [0, 1, 2, 5, 20]:
                strips = [rng.choice(words(scheme, 3)) for _ in range(many)]
                bale = Bale.listed(scheme, strips)
                self.assertEqual(members(bale, 4), sorted(set(strips), key=lambda strip: (len(strip), strip)))
                check_least_bale(self, bale)
        long = ["ab" * 20, "b" * 40]
        self.assertEqual(list(Bale.listed(ONE, long + long).strips(60)), long)

    def test_listed_takes_strips_only(self):
        self.fails(BadStrip, {"text": "c"}, Bale.listed, ONE, ["a", "c", "d", "b"])
        self.fails(BadStrip, {"text": "aB"}, Bale.listed, ONE, ["", "aB"])

    def test_showing(self):
        for scheme, most in [(ONE, 6), (Scheme(1, 3), 4), (TWO, 4)]:
            for strip in words(scheme, 2):
                for at in range(3):
                    front = Bale.showing(scheme, strip, at)
                    back = Bale.showing(scheme, strip, at, from_end=True)
                    long = [word for word in words(scheme, most) if len(word) >= at + len(strip)]
                    shown = [word for word in long if word[at:at + len(strip)] == strip]
                    self.assertEqual(members(front, most), shown)
                    shown = [word for word in long if word[:len(word) - at].endswith(strip)]
                    self.assertEqual(members(back, most), shown)
                    check_least_bale(self, front)
                    check_least_bale(self, back)

    def test_showing_far_in(self):
        bale = Bale.showing(ONE, "ab" * 20, 20)
        self.assertEqual((bale.first(), bale.how_many(60)), ("a" * 20 + "ab" * 20, 2 ** 20))
        bale = Bale.showing(Scheme(2, 3), "i", 6, from_end=True)
        self.assertEqual((bale.first(), bale.how_many(10)), ("i" + "a" * 6, 9 ** 9))
        self.assertEqual(Bale.showing(ONE, "a" * 40, 0, from_end=False).how_many(41), 2)

    def test_showing_errors(self):
        for at in [-1, -FAR]:
            for more in [{}, {"from_end": True}]:
                self.fails(BadStrip, {"text": "ac"}, Bale.showing, ONE, "ac", at, **more)
                self.fails(BadIndex, {"at": at}, Bale.showing, ONE, "ab", at, **more)
        with self.assertRaises(TypeError):
            Bale.showing(ONE, "a", 0, True)


class CopiesTest(Checked):
    def test_what_is_passed_is_not_changed_or_kept(self):
        rows, goods = [[1, 0], [0, -1], [2, 2]], [False, True, True]
        passed = copy.deepcopy((rows, goods))
        bale = Bale(ONE, rows, goods)
        told = copy.deepcopy((bale.rows, bale.goods))
        self.assertEqual((rows, goods), passed)
        rows[0][0] = -1
        rows.append([0, 0])
        goods[1] = False
        goods.clear()
        self.assertEqual((bale.rows, bale.goods), told)
        self.assertIn("a", bale)

    def test_a_least_table_is_copied_too(self):
        for rows, goods in [([[0, 0]], [True]), ([[1, -1], [-1, 0]], [True, False])]:
            bale = Bale(ONE, rows, goods)
            told = copy.deepcopy((bale.rows, bale.goods))
            self.assertEqual(told, (rows, goods))
            rows[0][1] = -1
            rows[0][0] = -1
            goods[0] = False
            self.assertEqual((bale.rows, bale.goods), told)

    def test_the_table_of_another_bale_may_be_passed(self):
        first = Bale.shaped(ONE, "(ab)*")
        second = Bale(ONE, first.rows, first.goods)
        self.assertIsNot(first.rows, second.rows)
        self.assertIsNot(first.rows[0], second.rows[0])
        self.assertIsNot(first.goods, second.goods)

    def test_listed_leaves_its_list_alone(self):
        strips = ["b", "a", "b"]
        bale = Bale.listed(ONE, strips)
        self.assertEqual(strips, ["b", "a", "b"])
        strips.append("ab")
        self.assertEqual(members(bale, 2), ["a", "b"])


if __name__ == "__main__":
    unittest.main()
