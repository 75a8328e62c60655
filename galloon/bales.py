"""Bales: sets of strips, often infinite ones, that a finite table describes."""

from galloon.errors import BadCount, BadIndex, BadTable
from galloon.patterns import pattern_table
from galloon.schemes import check_alike
from galloon.tables import backwards, combined, determined, leap, least, trail

# What `combined` is to keep: of both, of the first only, of the second only.
BOTH = (True, False, False)
EITHER = (True, True, True)
FIRST_ONLY = (False, True, False)
JUST_ONE = (False, True, True)

# Longer strips are counted by squaring; for shorter ones single steps are cheaper.
MOST_STEPS = 1000


class Bale:
    """A set of strips, with its least table."""

    def __init__(self, scheme, rows, goods):
        _check_rows(scheme, rows, goods)
        found, marks = least([_steps_of(scheme, row) for row in rows], goods)
        self.scheme = scheme
        self.rows = _filled(scheme, found)
        self.goods = marks

    @classmethod
    def every(cls, scheme):
        """The bale of all strips."""
        return cls(scheme, [[0] * len(scheme)], [True])

    @classmethod
    def none(cls, scheme):
        """The bale without strips."""
        return cls(scheme, [[-1] * len(scheme)], [False])

    @classmethod
    def listed(cls, scheme, strips):
        """The bale of the strips of a list."""
        for strip in strips:
            scheme.check(strip)
        rows, goods = _branching(strips)
        return cls(scheme, _filled(scheme, rows), goods)

    @classmethod
    def shaped(cls, scheme, pattern):
        """The bale of the strips that a pattern describes."""
        arcs, goods = pattern_table(scheme, pattern)
        rows, marks = determined(arcs, [0], goods)
        return cls(scheme, _filled(scheme, rows), marks)

    @classmethod
    def showing(cls, scheme, strip, at, *, from_end=False):
        """The bale of the strips that show a strip at an index, or before `at` last columns."""
        scheme.check(strip)
        if at < 0:
            raise BadIndex(at)
        free = [scheme.columns] * at
        choices = list(strip) + free if from_end else free + list(strip)
        arcs = [[(column, place + 1) for column in chosen] for place, chosen in enumerate(choices)] + [[]]
        open_at = 0 if from_end else len(choices)
        arcs[open_at].extend([(column, open_at) for column in scheme.columns])
        rows, marks = determined(arcs, [0], [False] * len(choices) + [True])
        return cls(scheme, _filled(scheme, rows), marks)

    def __eq__(self, other):
        return (
            isinstance(other, Bale)
            and self.scheme == other.scheme
            and self.rows == other.rows
            and self.goods == other.goods
        )

    def __bool__(self):
        return any(self.goods)

    def __contains__(self, text):
        places = {column: place for place, column in enumerate(self.scheme.columns)}
        state = 0
        for column in text:
            state = self.rows[state][places[column]] if column in places else -1
            if state < 0:
                return False
        return self.goods[state]

    def __and__(self, other):
        return _combination(self, other, BOTH)

    def __or__(self, other):
        return _combination(self, other, EITHER)

    def __sub__(self, other):
        return _combination(self, other, FIRST_ONLY)

    def __xor__(self, other):
        return _combination(self, other, JUST_ONE)

    def __invert__(self):
        every = Bale(self.scheme, [[0] * len(self.scheme)], [True])
        return _combination(every, self, FIRST_ONLY)

    def __add__(self, other):
        check_alike(self, other)
        behind = len(self.rows)
        front = _with_jumps(arcs_of(self), self.goods, behind)
        back = [[(column, after + behind) for column, after in row] for row in arcs_of(other)]
        starts = [0, behind] if self.goods[0] else [0]
        return bale_of(self.scheme, front + back, starts, [False] * behind + other.goods)

    def within(self, other):
        """Does each strip of this bale belong to the other one?"""
        check_alike(self, other)
        _, goods = combined(firm_of(self), firm_of(other), FIRST_ONLY)
        return not any(goods)

    def first(self):
        """The first strip, or None."""
        if not any(self.goods):
            return None
        # The states are numbered in the order of the first strips that lead to them.
        before = {}
        for state, row in enumerate(self.rows):
            for column, after in zip(self.scheme.columns, row):
                if after > 0 and after not in before:
                    before[after] = (state, column)
        at = min([state for state, good in enumerate(self.goods) if good])
        strip = ""
        while at > 0:
            at, column = before[at]
            strip = column + strip
        return strip

    def strips(self, most):
        """Yield the strips of at most `most` columns in order."""
        # For each number of columns: can a state be continued by so many to a strip?
        ends = [list(self.goods)]
        reached = [0]
        while len(ends) <= most + 1 and reached:
            length = len(ends) - 1
            waiting = [("", 0)] if ends[length][0] else []
            while waiting:
                strip, state = waiting.pop()
                if len(strip) == length:
                    yield strip
                else:
                    rest = ends[length - len(strip) - 1]
                    waiting.extend(_longer(self, strip, state, rest))
            latest = ends[-1]
            ends.append([any([after >= 0 and latest[after] for after in row]) for row in self.rows])
            reached = sorted({after for state in reached for after in self.rows[state] if after >= 0})

    def how_many(self, length):
        """The number of the strips of exactly this length."""
        if length < 0:
            return 0
        counts = _counts_after(self.rows, length)
        return sum([counts[state] for state in counts if self.goods[state]])

    def of_length(self, length):
        """The bale of the strips of exactly this length."""
        if length < 0:
            raise BadCount(length)
        width = len(self.scheme)
        rows = [[at + 1] * width for at in range(length)] + [[-1] * width]
        return self & Bale(self.scheme, rows, [False] * length + [True])

    def mirrored(self):
        """The bale of the mirrored strips."""
        starts = [state for state, good in enumerate(self.goods) if good]
        goods = [state == 0 for state in range(len(self.rows))]
        return bale_of(self.scheme, backwards(arcs_of(self)), starts, goods)

    def starred(self):
        """The bale of all strips that consist of any number of strips of this bale."""
        arcs = _with_jumps(arcs_of(self), self.goods, 0)
        # One more state is the start: it is good, but no arc comes back to it.
        return bale_of(self.scheme, arcs + [arcs[0]], [len(arcs)], self.goods + [True])

    def cut(self, front, back):
        """The bale of what remains when the first and the last columns are taken away."""
        if front < 0:
            raise BadCount(front)
        if back < 0:
            raise BadCount(back)
        arcs = arcs_of(self)
        ends = [state for state, good in enumerate(self.goods) if good]
        last = leap(backwards(arcs), ends, back)
        lasting = set(last)
        goods = [state in lasting for state in range(len(arcs))]
        return bale_of(self.scheme, arcs, leap(arcs, [0], front), goods)

    def parts(self):
        """The bale of all strips that stand without gaps in a strip of this bale."""
        states = list(range(len(self.rows)))
        return bale_of(self.scheme, arcs_of(self), states, [any(self.goods)] * len(states))

    def lengths(self):
        """Which lengths the strips have: `(start, period, early, later)`."""
        sets, back = trail(arcs_of(self), [0], None)
        has = [any([self.goods[state] for state in states]) for states in sets]
        period = _least_period(has[back:])
        start = back
        while start > 0 and has[start - 1] == has[start - 1 + period]:
            start -= 1
        early = [length for length in range(start) if has[length]]
        later = [length for length in range(start, start + period) if has[length]]
        return (start, period, early, later)


def differing(first, second):
    """The first strip that belongs to exactly one of two bales, or None."""
    return (first ^ second).first()


def bale_of(scheme, arcs, starts, goods):
    """The bale of the strips that a loose table accepts."""
    rows, marks = determined(arcs, starts, goods)
    return Bale(scheme, _filled(scheme, rows), marks)


def arcs_of(bale):
    """The table of a bale as a loose one."""
    columns = bale.scheme.columns
    return [[(column, after) for column, after in zip(columns, row) if after >= 0] for row in bale.rows]


def firm_of(bale):
    """The table of a bale as a firm one."""
    return ([_steps_of(bale.scheme, row) for row in bale.rows], bale.goods)


def columns_at(bale, at):
    """The ascending list of the columns that the strips of a bale have at an index."""
    return _letters_after(arcs_of(bale), [0], at)


def columns_from_end(bale, at):
    """The ascending list of the columns that the strips of a bale have at an index counted from the last column."""
    # The arcs are followed back as they are: the table of the mirrored bale may have very many states.
    ends = [state for state, good in enumerate(bale.goods) if good]
    return _letters_after(backwards(arcs_of(bale)), ends, at)


def _check_rows(scheme, rows, goods):
    """Raise BadTable(place) for the first part that is wrong in a table."""
    if not rows or len(goods) != len(rows):
        raise BadTable(-1)
    for place, row in enumerate(rows):
        if len(row) != len(scheme) or not all([-1 <= after < len(rows) for after in row]):
            raise BadTable(place)


def _steps_of(scheme, row):
    """The steps of a state as a dict, without those that are -1."""
    return {column: after for column, after in zip(scheme.columns, row) if after >= 0}


def _filled(scheme, rows):
    """The rows of a firm table with one step for each column."""
    return [[row.get(column, -1) for column in scheme.columns] for row in rows]


def _combination(first, second, wanted):
    """The bale of what two bales have, as `combined` says."""
    check_alike(first, second)
    rows, goods = combined(firm_of(first), firm_of(second), wanted)
    return Bale(first.scheme, _filled(first.scheme, rows), goods)


def _branching(strips):
    """A firm table of the strips of a list that branches where they part."""
    rows = [{}]
    goods = [False]
    for strip in strips:
        state = 0
        for column in strip:
            if column not in rows[state]:
                rows[state][column] = len(rows)
                rows.append({})
                goods.append(False)
            state = rows[state][column]
        goods[state] = True
    return rows, goods


def _with_jumps(arcs, goods, to):
    """The arcs, and beside each one to a good state another one to the state `to`."""
    return [row + [(column, to) for column, after in row if goods[after]] for row in arcs]


def _letters_after(arcs, starts, times):
    """The ascending list of the letters that a loose table may read after exactly `times` arcs."""
    return sorted({letter for state in leap(arcs, starts, times) for letter, _ in arcs[state]})


def _longer(bale, strip, state, rest):
    """The strips with one more column and their states, the last one first.

    For these states `rest` is True.
    """
    steps = [(column, after) for column, after in zip(bale.scheme.columns, bale.rows[state]) if after >= 0]
    return [(strip + column, after) for column, after in reversed(list(steps)) if rest[after]]


def _counts_after(rows, length):
    """For the states after `length` columns, the number of the strips that lead there."""
    ways = [_added([(after, 1) for after in row if after >= 0]) for row in rows]
    counts = {0: 1}
    left = length
    while left > 0 and left <= MOST_STEPS:
        counts = _spread(counts, ways)
        left -= 1
    while left > 0:
        if left % 2 == 1:
            counts = _spread(counts, ways)
        ways = [_spread(row, ways) for row in ways]
        left = left // 2
    return counts


def _spread(counts, ways):
    """The counts one step further, where `ways` has the counts that one strip leads to."""
    return _added([(after, counts[at] * ways[at][after]) for at in counts for after in ways[at]])


def _added(pairs):
    """For each state the sum of the numbers that stand beside it in a list of pairs."""
    found = {}
    for state, number in pairs:
        found[state] = found.get(state, 0) + number
    return found


def _least_period(marks):
    """The least number of marks that make the list when they are repeated."""
    for period in range(1, len(marks)):
        if len(marks) % period == 0 and marks == marks[:period] * (len(marks) // period):
            return period
    return len(marks)
