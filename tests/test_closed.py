"""Points 23 and 24: closed pair tables and closed certain tables."""

import random

from galloon.bales import Bale
from galloon.closed import certain_holds, certain_rows, pair_rows, pairs_hold
from galloon.errors import UnlikeSchemes
from galloon.looms import Loom
from galloon.questions import several
from galloon.schemes import Scheme
from tests.helpers import FAR, ONE, SCHEMES, Checked, random_arcs

TWO = Scheme(2, 2)
NO_STATES = (-1, -2, FAR, -FAR)


def plain_pairs_hold(first, second, rows):
    """Point 23, sentence by sentence."""
    if len(set(rows)) != len(rows) or (0, 0) not in rows:
        return False
    for p, q in rows:
        if not (p in range(len(first)) and q in range(len(second))):
            return False
        if first.goods[p] and not second.goods[q]:
            return False
        for read, write, after in first.arcs[p]:
            if not any(arc[:2] == (read, write) and (after, arc[2]) in rows for arc in second.arcs[q]):
                return False
    return True


def plain_certain_holds(loom, rows):
    """Point 24, sentence by sentence."""
    if len(set(rows)) != len(rows) or (0, 0, False) not in rows:
        return False
    for p, q, apart in rows:
        if not (p in range(len(loom)) and q in range(len(loom))):
            return False
        if loom.goods[p] and loom.goods[q] and apart:
            return False
        for read, write, after in loom.arcs[p]:
            for found, other, beyond in loom.arcs[q]:
                if found == read and (after, beyond, apart or write != other) not in rows:
                    return False
    return True


def some_looms(seed, many):
    """Small looms of all schemes."""
    rng = random.Random(seed)
    for scheme in SCHEMES:
        for _ in range(many):
            yield rng, scheme, Loom(scheme, *random_arcs(rng, scheme, rng.choice((1, 2, 3, 4)), rng.choice((1, 2, 3))))


class PairsTest(Checked):
    def test_told_tables_are_closed_and_ascending(self):
        told = 0
        for rng, scheme, second in some_looms(300, 40):
            other = Loom(scheme, *random_arcs(rng, scheme, 3))
            for first in (second, second & other, other, Loom.none(scheme)):
                rows = pair_rows(first, second)
                self.assertEqual(rows is not None, first.within(second))
                if rows is not None:
                    told += len(rows) > 2
                    self.assertEqual(rows, sorted(set(rows)))
                    self.assertTrue(all(row.__class__ is tuple for row in rows))
                    self.assertTrue(plain_pairs_hold(first, second, rows))
                    self.assertIs(pairs_hold(first, second, rows), True)
                    self.assertIs(pairs_hold(first, second, rows[::-1]), True)
        self.assertGreater(told, 30)

    def test_just_the_pairs_to_which_equal_columns_lead(self):
        for rng, scheme, second in some_looms(301, 20):
            first = second & Loom(scheme, *random_arcs(rng, scheme, 3))
            found = {(0, 0)}
            for _ in range(len(first) * len(second)):
                found |= {
                    (one[2], other[2]) for p, q in found
                    for one in first.arcs[p] for other in second.arcs[q] if one[:2] == other[:2]
                }
            self.assertEqual(pair_rows(first, second), sorted(found))

    def test_changed_tables(self):
        answers = {True: 0, False: 0}
        for rng, scheme, second in some_looms(302, 25):
            first = second & Loom(scheme, *random_arcs(rng, scheme, 3))
            rows = pair_rows(first, second)
            self.assertIs(pairs_hold(first, second, rows + [rng.choice(rows)]), False)
            for at in range(len(rows)):
                self.assertIs(pairs_hold(first, second, rows[:at] + rows[at + 1:]), False)
            for p in range(len(first)):
                for q in range(len(second)):
                    if (p, q) not in rows:
                        holds = pairs_hold(first, second, rows + [(p, q)])
                        self.assertIs(holds, plain_pairs_hold(first, second, rows + [(p, q)]))
                        answers[holds] += 1
            whole = [(p, q) for p in range(len(first)) for q in range(len(second))]
            part = rng.sample(whole, rng.randrange(len(whole) + 1))
            for table in (whole, part, [(0, 0)] + [pair for pair in part if pair != (0, 0)]):
                holds = pairs_hold(first, second, table)
                self.assertIs(holds, plain_pairs_hold(first, second, table))
                answers[holds] += 1
        self.assertGreater(min(answers.values()), 30)

    def test_integers_that_are_no_states(self):
        loom = Loom(ONE, [[("a", "b", 1)], [("b", "a", 0)]], [True, False])
        rows = [(0, 0), (1, 1)]
        self.assertIs(pairs_hold(loom, loom, rows), True)
        for number in NO_STATES + (2,):
            for pair in [(number, 0), (0, number), (1, number), (number, number)]:
                self.assertIs(pairs_hold(loom, loom, rows + [pair]), False)
                self.assertIs(pairs_hold(loom, loom, [pair] + rows), False)
        # Also where the states have no arcs and nothing is good.
        empty = Loom.none(ONE)
        self.assertIs(pairs_hold(empty, empty, [(0, 0), (0, -1)]), False)
        self.assertIs(pairs_hold(empty, empty, [(0, 0), (-1, 0)]), False)
        self.assertIs(pairs_hold(empty, empty, [(0, 0), (1, 0)]), False)

    def test_small_tables(self):
        same, every, empty = Loom.identity(ONE), Loom.every(ONE), Loom.none(ONE)
        self.assertIs(pairs_hold(same, every, []), False)
        self.assertIs(pairs_hold(empty, empty, []), False)
        self.assertIs(pairs_hold(same, every, [(0, 0)]), True)
        self.assertIs(pairs_hold(every, same, [(0, 0)]), False)
        self.assertIs(pairs_hold(same, every, [(0, 0), (0, 0)]), False)
        self.assertEqual(pair_rows(same, every), [(0, 0)])
        self.assertEqual(pair_rows(empty, empty), [(0, 0)])
        self.assertEqual(pair_rows(empty, same), [(0, 0)])
        self.assertIsNone(pair_rows(every, same))
        self.assertIsNone(pair_rows(same, empty))

    def test_a_good_state_beside_one_that_is_not(self):
        short = Loom.of_pairs(ONE, [("", "")])
        long = Loom.of_pairs(ONE, [("a", "a")])
        self.assertIs(pairs_hold(short, long, [(0, 0)]), False)
        self.assertIs(pairs_hold(short, long | short, [(0, 0)]), True)
        self.assertIs(pairs_hold(long, long | short, [(0, 0), (1, 1)]), True)
        self.assertIs(pairs_hold(long, long | short, [(0, 0)]), False)

    def test_unlike_schemes(self):
        for rows in ([], [(0, 0)], [(-1, 0)]):
            self.fails(UnlikeSchemes, {}, pairs_hold, Loom.every(ONE), Loom.every(TWO), rows)
        self.fails(UnlikeSchemes, {}, pair_rows, Loom.every(ONE), Loom.every(TWO))
        self.fails(UnlikeSchemes, {}, pair_rows, Loom.none(TWO), Loom.every(ONE))


class CertainTest(Checked):
    def test_told_tables_are_closed_and_ascending(self):
        told = 0
        for rng, scheme, loom in some_looms(310, 150):
            rows = certain_rows(loom)
            self.assertEqual(rows is None, several(loom) is not None)
            if rows is not None:
                told += len(rows) > 3
                self.assertEqual(rows, sorted(set(rows)))
                self.assertTrue(all(row.__class__ is tuple and row[2] in (True, False) for row in rows))
                self.assertTrue(plain_certain_holds(loom, rows))
                self.assertIs(certain_holds(loom, rows), True)
                self.assertIs(certain_holds(loom, rows[::-1]), True)
        self.assertGreater(told, 10)

    def test_each_told_triple_is_needed(self):
        answers = {True: 0, False: 0}
        for rng, _, loom in some_looms(311, 60):
            rows = certain_rows(loom)
            if rows is None:
                continue
            self.assertIs(certain_holds(loom, rows + [rng.choice(rows)]), False)
            for at in range(len(rows)):
                self.assertIs(certain_holds(loom, rows[:at] + rows[at + 1:]), False)
            states = range(len(loom))
            whole = [(p, q, apart) for p in states for q in states for apart in (False, True)]
            for row in whole:
                if row not in rows:
                    holds = certain_holds(loom, rows + [row])
                    self.assertIs(holds, plain_certain_holds(loom, rows + [row]))
                    answers[holds] += 1
        self.assertGreater(min(answers.values()), 30)

    def test_any_table_of_any_loom(self):
        for rng, _, loom in some_looms(312, 40):
            states = range(len(loom))
            whole = [(p, q, apart) for p in states for q in states for apart in (False, True)]
            part = rng.sample(whole, rng.randrange(len(whole) + 1))
            quiet = [row for row in whole if not (row[2] and loom.goods[row[0]] and loom.goods[row[1]])]
            for rows in (whole, part, quiet):
                self.assertIs(certain_holds(loom, rows), plain_certain_holds(loom, rows))

    def test_two_walks_that_part_and_come_to_no_end(self):
        # The second column tells which of two columns has been written before it.
        loom = Loom(ONE, [[("a", "a", 1), ("a", "b", 2)], [("a", "a", 3)], [("b", "a", 3)], []], [False] * 3 + [True])
        self.assertEqual(
            certain_rows(loom),
            [(0, 0, False), (1, 1, False), (1, 2, True), (2, 1, True), (2, 2, False), (3, 3, False)],
        )
        self.assertIsNone(several(loom))
        self.assertIs(certain_holds(loom, certain_rows(loom) + [(3, 3, True)]), False)
        self.assertIs(certain_holds(loom, certain_rows(loom) + [(3, 0, True)]), True)
        self.assertIs(certain_holds(loom, certain_rows(loom) + [(3, 0, False)]), True)

    def test_small_tables(self):
        same, every, empty = Loom.identity(ONE), Loom.every(ONE), Loom.none(ONE)
        self.assertEqual(certain_rows(same), [(0, 0, False)])
        self.assertEqual(certain_rows(empty), [(0, 0, False)])
        self.assertIsNone(certain_rows(every))
        self.assertIs(certain_holds(same, []), False)
        self.assertIs(certain_holds(empty, []), False)
        self.assertIs(certain_holds(same, [(0, 0, True)]), False)
        self.assertIs(certain_holds(same, [(0, 0, False)]), True)
        self.assertIs(certain_holds(same, [(0, 0, False), (0, 0, True)]), False)
        self.assertIs(certain_holds(same, [(0, 0, False), (0, 0, False)]), False)
        self.assertIs(certain_holds(empty, [(0, 0, True), (0, 0, False)]), True)
        self.assertIs(certain_holds(every, [(0, 0, False)]), False)

    def test_integers_that_are_no_states(self):
        for loom in (Loom(ONE, [[("a", "b", 1)], [("b", "a", 0)]], [True, False]), Loom.none(ONE)):
            rows = certain_rows(loom)
            for number in NO_STATES + (len(loom),):
                for triple in [(number, 0, False), (0, number, True), (number, number, False)]:
                    self.assertIs(certain_holds(loom, rows + [triple]), False)
                    self.assertIs(certain_holds(loom, [triple] + rows), False)

    def test_lists_stay_and_are_new(self):
        loom = Loom.identity(TWO).framed(1, 1)
        rows = certain_rows(loom)
        rows.append((0, 0, True))
        self.assertNotEqual(certain_rows(loom), rows)
        pairs = [(0, 0)]
        pairs_hold(loom, Loom.every(TWO), pairs), certain_holds(loom, rows)
        self.assertEqual(pairs, [(0, 0)])
        pair_rows(loom, loom).append(5)
        self.assertEqual(pair_rows(loom, loom), [(state, state) for state in range(len(loom))])

    def test_a_loom_that_is_a_result(self):
        # From left to right it is not plain which column is the fifth last one.
        loom = Loom.identity(ONE).on(Bale.showing(ONE, "b", 4, from_end=True))
        self.assertGreater(len(loom), 30)
        rows = certain_rows(loom)
        self.assertEqual(rows, [(state, state, False) for state in range(len(loom))])
        self.assertIs(certain_holds(loom, rows), True)
