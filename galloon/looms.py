"""Looms: finite tables that tell which strips of the same length a strip may become."""

from galloon.bales import BOTH, EITHER, FIRST_ONLY, bale_of
from galloon.errors import BadCount, BadPair, BadTable, TooMany
from galloon.schemes import check_alike
from galloon.tables import combined, determined, least

# So many products are made one by one, in case a power comes back; then by squaring.
MOST_POWERS = 40


class Loom:
    """What strips may become, with its least table."""

    MOST_OUTS = 200

    def __init__(self, scheme, arcs, goods):
        _check_arcs(scheme, arcs, goods)
        loose = [[(read + write, after) for read, write, after in row] for row in arcs]
        rows, marks = determined(loose, [0], goods)
        found, ends = least(rows, marks)
        self.scheme = scheme
        self.arcs = _arcs_of(found)
        self.goods = ends

    @classmethod
    def identity(cls, scheme):
        """The loom that says each strip for itself."""
        return cls(scheme, [unchanged(scheme, 0)], [True])

    @classmethod
    def every(cls, scheme):
        """The loom that says all strips of the same length."""
        return cls(scheme, [[(read, write, 0) for read in scheme.columns for write in scheme.columns]], [True])

    @classmethod
    def none(cls, scheme):
        """The loom that says nothing."""
        return cls(scheme, [[]], [False])

    @classmethod
    def of_pairs(cls, scheme, pairs):
        """The loom that says exactly the pairs of a list."""
        for index, pair in enumerate(pairs):
            before, after = pair
            scheme.check(before)
            scheme.check(after)
            if len(before) != len(after):
                raise BadPair(index)
        arcs = [[]]
        goods = [False]
        for before, after in pairs:
            state = 0
            for read, write in zip(before, after):
                arcs[state].append((read, write, len(arcs)))
                state = len(arcs)
                arcs.append([])
                goods.append(False)
            goods[state] = True
        return cls(scheme, arcs, goods)

    @classmethod
    def crossed(cls, first, second):
        """The loom that says each strip of the second bale for each of the first one."""
        return cls.every(first.scheme).on(first).into(second)

    def __eq__(self, other):
        return (
            isinstance(other, Loom)
            and self.scheme == other.scheme
            and self.arcs == other.arcs
            and self.goods == other.goods
        )

    def __len__(self):
        return len(self.arcs)

    def __bool__(self):
        return any(self.goods)

    def __mul__(self, other):
        check_alike(self, other)
        return _product(self, other)

    def __or__(self, other):
        return _combination(self, other, EITHER)

    def __and__(self, other):
        return _combination(self, other, BOTH)

    def __sub__(self, other):
        return _combination(self, other, FIRST_ONLY)

    def __invert__(self):
        arcs = [[(write, read, after) for read, write, after in row] for row in self.arcs]
        return Loom(self.scheme, arcs, self.goods)

    def within(self, other):
        """Does the other loom say all that this one says?"""
        check_alike(self, other)
        _, goods = combined(firm_of_loom(self), firm_of_loom(other), FIRST_ONLY)
        return not any(goods)

    def on(self, bale):
        """The loom that says the same, but for the strips of the bale only."""
        return _of_bale(bale) * self

    def into(self, bale):
        """The loom that says, of what this one says, only the strips of the bale."""
        return self * _of_bale(bale)

    def image(self, bale):
        """The bale of all strips that the loom says for a strip of the bale."""
        woven = self.on(bale)
        arcs = [[(write, after) for _, write, after in row] for row in woven.arcs]
        return bale_of(self.scheme, arcs, [0], woven.goods)

    def source(self, bale):
        """The bale of all strips for which the loom says a strip of the bale."""
        return self.into(bale).domain()

    def domain(self):
        """The bale of all strips for which the loom says something."""
        arcs = [[(read, after) for read, _, after in row] for row in self.arcs]
        return bale_of(self.scheme, arcs, [0], self.goods)

    def mirrored(self):
        """The loom that says the mirrored strips for the mirrored strips."""
        into = [[] for row in self.arcs]
        for state, row in enumerate(self.arcs):
            for read, write, after in row:
                into[after].append((read, write, state + 1))
        # The new start 0 stands for all good states at once; the others move up by one.
        start = [arc for row, good in zip(into, self.goods) if good for arc in row]
        return Loom(self.scheme, [start] + into, [self.goods[0], True] + [False] * (len(into) - 1))

    def repeated(self, times):
        """The product of so many copies of the loom."""
        if times < 0:
            raise BadCount(times)
        powers = [Loom.identity(self.scheme)]
        while len(powers) <= min(times, MOST_POWERS):
            following = powers[-1] * self
            for at, power in enumerate(powers):
                if power == following:
                    return powers[at + (times - at) % (len(powers) - at)]
            powers.append(following)
        if times < len(powers):
            return powers[times]
        return _squared(self, times)

    def framed(self, front, back):
        """The loom that leaves the first and the last columns as they are."""
        if front < 0:
            raise BadCount(front)
        if back < 0:
            raise BadCount(back)
        behind = front + len(self)
        arcs = [unchanged(self.scheme, at + 1) for at in range(front)]
        for row, good in zip(self.arcs, self.goods):
            moved = [(read, write, after + front) for read, write, after in row]
            arcs.append(moved + unchanged(self.scheme, behind) if good and back else moved)
        if not back:
            return Loom(self.scheme, arcs, [False] * front + self.goods)
        arcs = arcs + [unchanged(self.scheme, behind + at) for at in range(1, back)] + [[]]
        return Loom(self.scheme, arcs, [False] * (len(arcs) - 1) + [True])

    def says(self, before, after):
        """Does the loom say the second strip for the first one?"""
        self.scheme.check(before)
        self.scheme.check(after)
        if len(before) != len(after):
            return False
        states = [0]
        for columns in zip(before, after):
            states = [arc[2] for state in states for arc in self.arcs[state] if arc[:2] == columns]
        return any([self.goods[state] for state in states])

    def count_outs(self, strip):
        """The number of the strips that the loom says for a strip."""
        self.scheme.check(strip)
        counts = {0: 1}
        for column in strip:
            found = {}
            for state in counts:
                for read, _, after in self.arcs[state]:
                    if read == column:
                        found[after] = found.get(after, 0) + counts[state]
            counts = found
        return sum([counts[state] for state in counts if self.goods[state]])

    def outs(self, strip):
        """The list of the strips that the loom says for a strip."""
        if self.count_outs(strip) > self.MOST_OUTS:
            raise TooMany(self.MOST_OUTS)
        found = [("", 0)]
        for steps in _good_steps(self, strip):
            found = [(out + write, after) for out, state in found for write, after in steps.get(state, [])]
        return [out for out, state in found if self.goods[state]]

    def first_out(self, strip):
        """The first of the strips that the loom says for a strip, or None."""
        if self.count_outs(strip) == 0:
            return None
        out = ""
        state = 0
        for steps in _good_steps(self, strip):
            write, state = steps[state][0]
            out = out + write
        return out

    def sure_lines(self, strip):
        """For each row the colours that its spots have in all that the loom says, or None."""
        if self.count_outs(strip) == 0:
            return None
        lines = [""] * self.scheme.rows
        for steps in _good_steps(self, strip):
            drawn = [self.scheme.spots(write) for state in steps for write, _ in steps[state]]
            for row in range(self.scheme.rows):
                colour = drawn[0][row]
                sure = all([spots[row] == colour for spots in drawn])
                lines[row] = lines[row] + (colour if sure else ".")
        return lines


def by_read(row):
    """For each column the pairs of what is written for it and the next state."""
    found = {}
    for read, write, after in row:
        found.setdefault(read, []).append((write, after))
    return found


def unchanged(scheme, after):
    """The arcs that leave any column as it is and lead to one state."""
    return [(column, column, after) for column in scheme.columns]


def overwritten(scheme, column, after):
    """The arcs that write one column for any column and lead to one state."""
    return [(read, column, after) for read in scheme.columns]


def named_loom(scheme, steps, ends):
    """The loom of a table whose states have names: `steps` has the arcs of each name.

    The first name is the start; `ends` is the list of the names of the good states.
    """
    numbers = {name: number for number, name in enumerate(steps)}
    arcs = [[(read, write, numbers[after]) for read, write, after in steps[name]] for name in steps]
    return Loom(scheme, arcs, [name in ends for name in steps])


def firm_of_loom(loom):
    """The table of a loom as a firm one."""
    return ([{read + write: after for read, write, after in row} for row in loom.arcs], loom.goods)


def _check_arcs(scheme, arcs, goods):
    """Raise BadTable(place) for the first part that is wrong in a table."""
    if not arcs or len(goods) != len(arcs):
        raise BadTable(-1)
    for place, row in enumerate(arcs):
        for read, write, after in row:
            if not scheme.is_column(read) or not scheme.is_column(write) or not 0 <= after < len(arcs):
                raise BadTable(place)


def _arcs_of(rows):
    """The arcs of a firm table whose letters are pairs of columns."""
    return [[(letter[0], letter[1], row[letter]) for letter in row] for row in rows]


def _of_bale(bale):
    """The loom that says each strip of a bale for itself."""
    columns = bale.scheme.columns
    arcs = [[(column, column, after) for column, after in zip(columns, row) if after >= 0] for row in bale.rows]
    return Loom(bale.scheme, arcs, bale.goods)


def _combination(first, second, wanted):
    """The loom of what two looms say, as `combined` says."""
    check_alike(first, second)
    rows, goods = combined(firm_of_loom(first), firm_of_loom(second), wanted)
    return Loom(first.scheme, _arcs_of(rows), goods)


def _product(first, second):
    """The two looms behind each other: its states are pairs of theirs."""
    ahead = [by_read(leading) for leading in second.arcs]
    numbers = {(0, 0): 0}
    queue = [(0, 0)]
    arcs = []
    while len(arcs) < len(queue):
        one, other = queue[len(arcs)]
        row = []
        for read, between, after in first.arcs[one]:
            for write, beyond in ahead[other].get(between, []):
                pair = (after, beyond)
                if pair not in numbers:
                    numbers[pair] = len(queue)
                    queue.append(pair)
                row.append((read, write, numbers[pair]))
        arcs.append(row)
    goods = [first.goods[one] and second.goods[other] for one, other in queue]
    return Loom(first.scheme, arcs, goods)


def _squared(loom, times):
    """The product of many copies, with as few products as there are binary digits."""
    result = Loom.identity(loom.scheme)
    square = loom
    left = times
    while left > 0:
        if left % 2 == 1:
            result = result * square
        left = left // 2
        if left > 0:
            square = square * square
    return result


def _good_steps(loom, strip):
    """For each column of a strip a dict of the steps on walks that read it to a good end.

    It has for each state the list of `(write, next)`, in ascending order.
    """
    reached = [[0]]
    for column in strip:
        latest = reached[-1]
        reached.append(sorted({arc[2] for state in latest for arc in loom.arcs[state] if arc[0] == column}))
    ends = {state: True for state in reached[-1] if loom.goods[state]}
    found = []
    for at in range(len(strip) - 1, -1, -1):
        steps = {}
        for state in reached[at]:
            onward = [arc[1:] for arc in loom.arcs[state] if arc[0] == strip[at] and arc[2] in ends]
            if onward:
                steps[state] = onward
        found.append(steps)
        ends = {state: True for state in steps}
    return found[::-1]
