"""Masks: which indexes are open, in marks that repeat for ever."""

from math import lcm

from galloon.errors import BadCount, BadIndex, BadMask

MARKS = "+-"
OPEN = "+"
CLOSED = "-"
MOST_MARKS = 6


class Mask:
    """The marks of a start, and behind them those of a loop again and again, in least form."""

    def __init__(self, start, loop):
        if not _are_marks(start):
            raise BadMask("start")
        if not loop or not _are_marks(loop):
            raise BadMask("loop")
        least_start, least_loop = _least_form(start, loop)
        self.start = least_start
        self.loop = least_loop

    @classmethod
    def every(cls):
        """The mask that is open everywhere."""
        return cls("", OPEN)

    @classmethod
    def none(cls):
        """The mask that is open nowhere."""
        return cls("", CLOSED)

    @classmethod
    def read(cls, text):
        """The mask with this written form, which need not be the least one."""
        parts = text.split("(")
        if len(parts) != 2:
            raise BadMask("text")
        if ")" in parts[0] + parts[1][:-1] or not parts[1].endswith(")"):
            raise BadMask("text")
        return cls(parts[0], parts[1][:-1])

    @classmethod
    def menu(cls, starts, loops):
        """All different masks with at most so many marks in the start and in the loop."""
        if not 0 <= starts <= 2:
            raise BadCount(starts)
        if not 1 <= loops <= 3:
            raise BadCount(loops)
        found = []
        for loop in _all_marks(1, loops):
            for start in _all_marks(0, starts):
                if _least_form(start, loop) == (start, loop):
                    found.append(cls(start, loop))
        return found

    def __eq__(self, other):
        return isinstance(other, Mask) and self.start == other.start and self.loop == other.loop

    def __getitem__(self, at):
        if at < 0:
            raise BadIndex(at)
        if at < len(self.start):
            return self.start[at] == OPEN
        return self.loop[(at - len(self.start)) % len(self.loop)] == OPEN

    def __iter__(self):
        raise TypeError("a mask has no end")

    def __and__(self, other):
        return _combined(self, other, ("++",))

    def __or__(self, other):
        return _combined(self, other, ("++", "+-", "-+"))

    def __xor__(self, other):
        return _combined(self, other, ("+-", "-+"))

    def __invert__(self):
        return _combined(self, self, ("--",))

    def __str__(self):
        return f"{self.start}({self.loop})"

    def marks(self, length):
        """The string of the first marks."""
        if length < 0:
            raise BadCount(length)
        times = length // len(self.loop) + 1
        return (self.start + self.loop * times)[:length]


def masks_apart(first, second):
    """The least index at which two masks differ, or None."""
    apart = first ^ second
    at = (apart.start + apart.loop).find(OPEN)
    return at if at >= 0 else None


def _are_marks(text):
    """Is a string short enough, and has it marks only?"""
    return len(text) <= MOST_MARKS and all([mark in MARKS for mark in text])


def _all_marks(least, most):
    """All strings of at least and at most so many marks, the shorter ones first."""
    found = [""]
    for _ in range(least):
        found = [text + mark for text in found for mark in MARKS]
    latest = found
    for _ in range(least, most):
        latest = [text + mark for text in latest for mark in MARKS]
        found = found + latest
    return found


def _least_form(start, loop):
    """The start and the loop of the same marks with the shortest loop, and then the shortest start."""
    loop = loop[:(loop + loop).find(loop, 1)]
    while start and start[-1] == loop[-1]:
        start = start[:-1]
        loop = loop[-1] + loop[:-1]
    return start, loop


def _combined(first, second, wanted):
    """The mask that is open where the marks of two masks, side by side, are among those wanted."""
    begin = max(len(first.start), len(second.start))
    length = begin + lcm(len(first.loop), len(second.loop))
    pairs = [one + other for one, other in zip(first.marks(length), second.marks(length))]
    marks = "".join([OPEN if pair in wanted else CLOSED for pair in pairs])
    # The limit of marks holds for what is passed to the class only, not for these results.
    mask = Mask("", OPEN)
    start, loop = _least_form(marks[:begin], marks[begin:])
    mask.start = start
    mask.loop = loop
    return mask
