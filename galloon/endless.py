"""Endless strips: a column at each integer, with two ends that repeat."""

from math import lcm

from galloon.errors import BadEndless
from galloon.schemes import check_alike

MOST_LOOP = 6


class Endless:
    """A middle, behind it one strip again and again, and before it another one."""

    def __init__(self, scheme, left, middle, right, *, start=0):
        if not _is_loop(scheme, left):
            raise BadEndless("left")
        if not scheme.is_strip(middle):
            raise BadEndless("middle")
        if not _is_loop(scheme, right):
            raise BadEndless("right")
        self.scheme = scheme
        self.left = left
        self.middle = middle
        self.right = right
        self.start = start

    def __eq__(self, other):
        return isinstance(other, Endless) and self.scheme == other.scheme and _apart(self, other) == []

    def column_at(self, index):
        """The column at an index."""
        at = index - self.start
        if at < 0:
            return self.left[at % len(self.left)]
        if at < len(self.middle):
            return self.middle[at]
        return self.right[(at - len(self.middle)) % len(self.right)]

    def window(self, begin, stop):
        """The strip of the columns from one index on, up to before another one."""
        return "".join([self.column_at(index) for index in range(begin, stop)])

    def moved(self, by):
        """The endless strip that has at each index the column that stands `by` places behind it here."""
        return Endless(self.scheme, self.left, self.middle, self.right, start=self.start - by)


def endless_apart(first, second):
    """The ascending list of the indexes at which two endless strips differ, or None if there is no end."""
    check_alike(first, second)
    return _apart(first, second)


def _is_loop(scheme, text):
    """Is a string a strip that may repeat at an end?"""
    return scheme.is_strip(text) and 1 <= len(text) <= MOST_LOOP


def _apart(first, second):
    """The indexes at which two endless strips of one scheme differ, or None if there is no end."""
    begin = min(first.start, second.start)
    stop = max(first.start + len(first.middle), second.start + len(second.middle))
    # Where both repeat, a difference comes back again and again.
    before = begin - lcm(len(first.left), len(second.left))
    behind = stop + lcm(len(first.right), len(second.right))
    found = []
    for at, (one, other) in enumerate(zip(first.window(before, behind), second.window(before, behind))):
        if one != other:
            index = before + at
            if index < begin or index >= stop:
                return None
            found.append(index)
    return found
