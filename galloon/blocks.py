"""Blocks: deeds for endless strips and rings, with the same table at every place."""

from galloon.endless import Endless
from galloon.errors import BadBlock, TooWide
from galloon.schemes import check_alike


class Block:
    """The new column for each window, in least form."""

    MOST = 729

    def __init__(self, scheme, left, right, results):
        if left < 0 or right < 0 or not is_narrow(scheme, left + 1 + right):
            raise BadBlock("reach")
        if not scheme.is_strip(results) or len(results) != len(words_of(scheme, left + 1 + right)):
            raise BadBlock("results")
        least_left, least_right, least_results = _least_form(scheme, left, right, results)
        self.scheme = scheme
        self.left = least_left
        self.right = least_right
        self.results = least_results
        windows = words_of(scheme, least_left + 1 + least_right)
        self._news = {window: new for window, new in zip(windows, least_results)}

    @classmethod
    def identity(cls, scheme):
        """The block that changes nothing."""
        return cls(scheme, 0, 0, scheme.columns)

    @classmethod
    def shift(cls, scheme, by):
        """The block that takes at each index the column that stands `by` places behind it."""
        if not is_narrow(scheme, abs(by) + 1):
            raise BadBlock("reach")
        windows = words_of(scheme, abs(by) + 1)
        if by < 0:
            return cls(scheme, -by, 0, "".join([window[0] for window in windows]))
        return cls(scheme, 0, by, "".join([window[-1] for window in windows]))

    @classmethod
    def of_paint(cls, paint):
        """The block that paints every column."""
        return cls(paint.scheme, 0, 0, paint(paint.scheme.columns))

    @classmethod
    def of_rule(cls, rule):
        """The block that mends all spots of the row of a rule at the same time."""
        scheme = rule.scheme
        spots = {column: scheme.spots(column)[rule.row] for column in scheme.columns}
        results = ""
        for left, column, right in words_of(scheme, 3):
            new = rule.value(spots[left], column, spots[right])
            results = results + scheme.recoloured(column, rule.row, 0, new)
        return cls(scheme, 1, 1, results)

    def __call__(self, endless):
        check_alike(self, endless)
        begin = endless.start - self.right
        stop = endless.start + len(endless.middle) + self.left
        left = self._made(endless, begin - len(endless.left), begin)
        middle = self._made(endless, begin, stop)
        right = self._made(endless, stop, stop + len(endless.right))
        return Endless(self.scheme, left, middle, right, start=begin)

    def __eq__(self, other):
        return (
            isinstance(other, Block)
            and self.scheme == other.scheme
            and self.left == other.left
            and self.right == other.right
            and self.results == other.results
        )

    def __mul__(self, other):
        check_alike(self, other)
        left = self.left + other.left
        right = self.right + other.right
        if not is_narrow(self.scheme, left + 1 + right):
            raise TooWide()
        windows = words_of(self.scheme, left + 1 + right)
        return Block(self.scheme, left, right, "".join([other.inner(self.inner(window)) for window in windows]))

    def inner(self, strip):
        """The new columns of all windows of a strip."""
        self.scheme.check(strip)
        width = self.left + 1 + self.right
        return "".join([self._news[strip[at:at + width]] for at in range(len(strip) - width + 1)])

    def around(self, strip):
        """The strip that the block makes of a ring."""
        self.scheme.check(strip)
        if not strip:
            return strip
        places = range(-self.left, len(strip) + self.right)
        return self.inner("".join([strip[place % len(strip)] for place in places]))

    def mirrored(self):
        """The block that makes of each mirrored ring the mirrored result."""
        windows = words_of(self.scheme, self.left + 1 + self.right)
        results = "".join([self._news[window[::-1]] for window in windows])
        return Block(self.scheme, self.right, self.left, results)

    def _made(self, endless, begin, stop):
        """The new columns from one index on, up to before another one."""
        return self.inner(endless.window(begin - self.left, stop + self.right))


def windows_of(block):
    """A dict with the new column for each window of a block, in the order of the windows."""
    windows = words_of(block.scheme, block.left + 1 + block.right)
    return {window: new for window, new in zip(windows, block.results)}


def is_narrow(scheme, width):
    """Are there at most 729 windows of this width?"""
    many = 1
    left = width
    while left > 0 and many <= Block.MOST:
        many = many * len(scheme)
        left -= 1
    return many <= Block.MOST


def words_of(scheme, width):
    """All strips of this width, in order."""
    words = [""]
    for _ in range(width):
        words = [word + column for word in words for column in scheme.columns]
    return words


def _least_form(scheme, left, right, results):
    """The parts of the least form of a table."""
    many = len(scheme)
    least = results
    front = left
    while front > 0 and least == least[:len(least) // many] * many:
        least = least[:len(least) // many]
        front -= 1
    back = right
    while back > 0 and _is_blind(least, many):
        least = least[::many]
        back -= 1
    return front, back, least


def _is_blind(results, many):
    """Do the results not depend on the last column of the windows?"""
    return all([results[at] == results[at - at % many] for at in range(len(results))])
