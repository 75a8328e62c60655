"""What several tests need: plain twins of bales and looms, and checks of least tables."""

import itertools
import unittest

from galloon.schemes import Scheme

ONE = Scheme(1, 2)
SCHEMES = [ONE, Scheme(1, 3), Scheme(2, 2), Scheme(2, 3), Scheme(3, 2)]
FAR = 10 ** 30 + 7
OTHER_KINDS = [None, 0, 7, "a", "", [], (1, 2), {}, True, object()]


class Checked(unittest.TestCase):
    """A test case that looks at errors with all their attributes."""

    def fails(self, error, told, call, *args, **more):
        """The call raises just this error, and its attributes are those told."""
        with self.assertRaises(error) as caught:
            call(*args, **more)
        self.assertIs(caught.exception.__class__, error)
        self.assertEqual(vars(caught.exception), told)
        for name in told:
            self.assertIs(getattr(caught.exception, name).__class__, told[name].__class__)


def words(scheme, most):
    """All strips of at most so many columns, in shortlex order."""
    found = []
    for length in range(most + 1):
        found.extend("".join(part) for part in itertools.product(scheme.columns, repeat=length))
    return found


def members(bale, most):
    """The strips of at most so many columns that `in` finds in a bale."""
    return [word for word in words(bale.scheme, most) if word in bale]


def run_rows(scheme, rows, goods, word):
    """Does a table of a bale, taken as it stands, accept a strip?"""
    state = 0
    for column in word:
        state = rows[state][scheme.columns.index(column)]
        if state == -1:
            return False
    return goods[state]


def accepted(scheme, rows, goods, most):
    """The strips that a table of a bale, taken as it stands, accepts."""
    return [word for word in words(scheme, most) if run_rows(scheme, rows, goods, word)]


def said(arcs, goods, most):
    """The pairs of strips that a table of a loom, taken as it stands, says."""
    walks = {("", "", 0)}
    found = set()
    for _ in range(most + 1):
        found.update((x, y) for x, y, state in walks if goods[state])
        walks = {(x + arc[0], y + arc[1], arc[2]) for x, y, state in walks for arc in arcs[state]}
    return found


def relation(loom, most):
    """The pairs of strips that a loom says, by walks in its table."""
    return said(loom.arcs, loom.goods, most)


def random_rows(rng, scheme, states, holes=0.2):
    """A table of a bale with so many states."""
    rows = [
        [-1 if rng.random() < holes else rng.randrange(states) for _ in scheme.columns]
        for _ in range(states)
    ]
    return rows, [rng.random() < 0.4 for _ in range(states)]


def random_arcs(rng, scheme, states, many=4):
    """A table of a loom with so many states and on the average `many` arcs for each."""
    def arc():
        return (rng.choice(scheme.columns), rng.choice(scheme.columns), rng.randrange(states))
    arcs = [[arc() for _ in range(rng.randrange(2 * many + 1))] for _ in range(states)]
    return arcs, [rng.random() < 0.4 for _ in range(states)]


def steps_of_bale(bale):
    """The table of a bale as one dict for each state, in the order of the letters."""
    return [
        {column: step for column, step in zip(bale.scheme.columns, row) if step != -1}
        for row in bale.rows
    ]


def steps_of_loom(loom):
    """The table of a loom as one dict for each state, in the order of the arcs."""
    return [{arc[:2]: arc[2] for arc in row} for row in loom.arcs]


def check_least(case, steps, goods):
    """The table is reached, live, without equals, and numbered by the first walks."""
    many = len(steps)
    case.assertEqual(len(goods), many)
    case.assertTrue(all(good is True or good is False for good in goods))
    order = {0: True}
    for state in range(many):
        case.assertGreater(len(order), state)
        order.update((after, True) for after in steps[state].values())
    case.assertEqual(list(order), list(range(many)))
    live = {state for state in range(many) if goods[state]}
    if not live:
        case.assertEqual((steps, goods), ([{}], [False]))
        return
    before = {state: [] for state in range(many)}
    for state, row in enumerate(steps):
        for after in row.values():
            before[after].append(state)
    waiting = sorted(live)
    while waiting:
        fresh = set(before[waiting.pop()]) - live
        live |= fresh
        waiting.extend(fresh)
    case.assertEqual(len(live), many)
    case.assertEqual(len(set(_colours(steps, goods))), many)


def _colours(steps, goods):
    """For each state a number: those with the same one allow the same continuations."""
    colours, many = [int(good) for good in goods], 0
    while many < len(set(colours)):
        many = len(set(colours))
        numbers = {}
        for state, row in enumerate(steps):
            seen = (colours[state], tuple(sorted((letter, colours[after]) for letter, after in row.items())))
            numbers.setdefault(seen, []).append(state)
        colours = [0] * len(steps)
        for number, states in enumerate(numbers.values()):
            for state in states:
                colours[state] = number
    return colours


def check_least_bale(case, bale):
    """The table of a bale is the least one."""
    case.assertTrue(all(len(row) == len(bale.scheme) for row in bale.rows))
    case.assertTrue(all(-1 <= step < len(bale.rows) for row in bale.rows for step in row))
    check_least(case, steps_of_bale(bale), bale.goods)


def check_least_loom(case, loom):
    """The table of a loom is the least one."""
    for row in loom.arcs:
        case.assertTrue(all(arc.__class__ is tuple and len(arc) == 3 for arc in row))
        case.assertEqual(row, sorted(row))
        case.assertEqual(len({arc[:2] for arc in row}), len(row))
    check_least(case, steps_of_loom(loom), loom.goods)
    case.assertEqual(len(loom), len(loom.arcs))
