"""Passes, stamps, borders, gates and turns: the first six kinds of deeds."""

from galloon.bales import Bale
from galloon.deeds import Deed, written
from galloon.errors import BadCount, BadStamp, BadTurn, TooMany
from galloon.looms import Loom, named_loom, overwritten, unchanged
from galloon.masks import OPEN, Mask, masks_apart
from galloon.patterns import is_described, pattern_table
from galloon.strips import turned

MOST_GAP = 3
MOST_OLD = 4
MOST_EDGE = 4


class Pass(Deed):
    """Paints the columns at the open indexes of a mask."""

    KIND = "pass"

    def __init__(self, paint, mask):
        Deed.__init__(self, paint.scheme)
        self.paint = paint
        self.mask = mask

    def __str__(self):
        return f"{self.KIND} {self.paint} {self.mask}"

    def loom(self):
        """The loom of the deed: its states are the places of the least form of the mask."""
        if self._woven is None:
            self._woven = _pass_loom(self.paint, self.mask)
        return self._woven

    def played(self, strip):
        """The same list as that of `outs`, found by painting column by column."""
        self.scheme.check(strip)
        paint = self.paint
        marks = self.mask.marks(len(strip))
        return ["".join([new if mark == OPEN else old for old, new, mark in zip(strip, paint(strip), marks)])]


class FreePass(Pass):
    """Paints any set of columns in which at least `gap` columns stand between any two."""

    KIND = "free"

    def __init__(self, paint, *, gap=0):
        if not 0 <= gap <= MOST_GAP:
            raise BadCount(gap)
        Pass.__init__(self, paint, Mask.every())
        self.gap = gap

    def __str__(self):
        return f"{self.KIND} {self.paint} {self.gap}"

    def loom(self):
        """The loom of the deed: its states tell how many columns must be left as they are."""
        if self._woven is None:
            self._woven = _free_loom(self.paint, self.gap)
        return self._woven

    def played(self, strip):
        """The same list as that of `outs`, found column by column."""
        self.scheme.check(strip)
        paint = self.paint
        # For each beginning the least number of columns that must be left as they are now.
        begun = {"": 0}
        for old, new in zip(strip, paint(strip)):
            found = {}
            for text in begun:
                found[text + old] = min(found.get(text + old, self.gap), max(0, begun[text] - 1))
                if begun[text] == 0:
                    found[text + new] = min(found.get(text + new, self.gap), self.gap)
            # Each beginning can be ended, and each one becomes another strip.
            if len(found) > Loom.MOST_OUTS:
                raise TooMany(Loom.MOST_OUTS)
            begun = found
        return sorted(list(begun))


class Stamp(Deed):
    """Writes `new` wherever a scan from left to right meets `old`."""

    KIND = "stamp"

    def __init__(self, scheme, old, new):
        if not scheme.is_strip(old) or not 1 <= len(old) <= MOST_OLD:
            raise BadStamp("old")
        if not scheme.is_strip(new) or len(new) != len(old):
            raise BadStamp("new")
        Deed.__init__(self, scheme)
        self.old = old
        self.new = new

    def __str__(self):
        return f"{self.KIND} {self.old} {self.new}"

    def loom(self):
        """The loom of the deed."""
        if self._woven is None:
            self._woven = _stamp_loom(self.scheme, self.old, self.new)
        return self._woven

    def played(self, strip):
        """The same list as that of `outs`, found by the scan."""
        self.scheme.check(strip)
        out = ""
        while len(out) < len(strip):
            at = len(out)
            if strip[at:at + len(self.old)] == self.old:
                out = out + self.new
            else:
                out = out + strip[at]
        return [out]


class Border(Deed):
    """Replaces the first columns by `front` and the last ones by `back`."""

    KIND = "border"

    def __init__(self, scheme, front, back):
        if not scheme.is_strip(front) or len(front) > MOST_EDGE:
            raise BadStamp("front")
        if not scheme.is_strip(back) or len(back) > MOST_EDGE:
            raise BadStamp("back")
        Deed.__init__(self, scheme)
        self.front = front
        self.back = back

    def __str__(self):
        return f"{self.KIND} {written(self.front)} {written(self.back)}"

    def loom(self):
        """The loom of the deed: its states are the places in front, one between, and those behind."""
        if self._woven is None:
            self._woven = _border_loom(self.scheme, self.front, self.back)
        return self._woven

    def played(self, strip):
        """The same list as that of `outs`, found by replacing both ends."""
        self.scheme.check(strip)
        if len(strip) < len(self.front) + len(self.back):
            return []
        return [self.front + strip[len(self.front):len(strip) - len(self.back)] + self.back]


class Gate(Deed):
    """Leaves the strips that a pattern describes, and makes nothing of others."""

    KIND = "gate"

    def __init__(self, scheme, pattern):
        # This raises the error of a wrong pattern.
        pattern_table(scheme, pattern)
        Deed.__init__(self, scheme)
        self.pattern = pattern

    def __str__(self):
        return f"{self.KIND} {written(self.pattern)}"

    def loom(self):
        """The loom of the deed."""
        if self._woven is None:
            self._woven = Loom.identity(self.scheme).on(Bale.shaped(self.scheme, self.pattern))
        return self._woven

    def played(self, strip):
        """The same list as that of `outs`, found by reading the pattern along the strip."""
        self.scheme.check(strip)
        return [strip] if is_described(self.scheme, self.pattern, strip) else []


class Turn(Deed):
    """Moves the first column to the end, or the last one to the front, or nothing."""

    KIND = "turn"

    def __init__(self, scheme, by):
        if by not in (-1, 0, 1):
            raise BadTurn(by)
        Deed.__init__(self, scheme)
        self.by = by

    def __str__(self):
        return f"{self.KIND} {self.by}"

    def loom(self):
        """The loom of the deed."""
        if self._woven is None:
            self._woven = _turn_loom(self.scheme, self.by)
        return self._woven

    def played(self, strip):
        """The same list as that of `outs`, found by turning the strip."""
        self.scheme.check(strip)
        return [turned(strip, self.by)]


def mask_menu(paint, masks):
    """The passes with one paint and the masks of a list, in order."""
    return [Pass(paint, mask) for mask in masks]


def masks_fitting(paint, masks, pairs):
    """The indexes of the masks whose passes make the second strip of the first one in all pairs."""
    for before, after in pairs:
        paint.scheme.check(before)
        paint.scheme.check(after)
    return [index for index, mask in enumerate(masks) if _has_made(Pass(paint, mask), pairs)]


def mask_known(paint, masks, pairs, length):
    """The marks that all fitting masks share, and `?` where they differ; None if no mask fits."""
    fitting = masks_fitting(paint, masks, pairs)
    if length < 0:
        raise BadCount(length)
    if not fitting:
        return None
    known = [masks[index].marks(length) for index in fitting]
    marks = known[0]
    return "".join([marks[at] if all([told[at] == marks[at] for told in known]) else "?" for at in range(length)])


def mask_parting(paint, first, second):
    """The first strip of which the passes with two masks make different strips, or None."""
    at = masks_apart(first, second)
    changing = [column for column in paint.scheme.columns if paint(column) != column]
    if at is None or not changing:
        return None
    return paint.scheme.BLANK * at + changing[0]


def _has_made(deed, pairs):
    """Does a deed that makes one strip of each make the second strip of the first one in all pairs?"""
    return all([deed.played(before) == [after] for before, after in pairs])


def _pass_loom(paint, mask):
    """The loom of a pass."""
    marks = mask.start + mask.loop
    arcs = []
    for at, mark in enumerate(marks):
        after = at + 1 if at + 1 < len(marks) else len(mask.start)
        if mark == OPEN:
            arcs.append([(column, paint(column), after) for column in paint.scheme.columns])
        else:
            arcs.append(unchanged(paint.scheme, after))
    return Loom(paint.scheme, arcs, [True] * len(arcs))


def _free_loom(paint, gap):
    """The loom of a free pass."""
    arcs = [unchanged(paint.scheme, max(0, left - 1)) for left in range(gap + 1)]
    arcs[0].extend([(column, paint(column), gap) for column in paint.scheme.columns])
    return Loom(paint.scheme, arcs, [True] * len(arcs))


def _stamp_loom(scheme, old, new):
    """The loom of a stamp.

    A state has the number of columns that have been written of `new`, and the numbers of
    columns of `old` that stand behind each column that has been left as it is: `old`
    must not come there.
    """
    start = (0, ())
    steps = {}
    waiting = [start]
    while waiting:
        state = waiting.pop()
        if state not in steps:
            steps[state] = _stamp_arcs(scheme, old, new, state)
            waiting.extend([after for _, _, after in steps[state]])
    return named_loom(scheme, steps, [state for state in steps if state[0] == 0])


def _stamp_arcs(scheme, old, new, state):
    """The arcs from one state of a stamp."""
    at, begun = state
    found = []
    for column in scheme.columns:
        longer = tuple([many + 1 for many in begun if old[many] == column])
        left = longer if column != old[0] else (1,) + longer
        if column == old[at] and len(old) not in longer:
            found.append((column, new[at], ((at + 1) % len(old), longer)))
        if at == 0 and len(old) not in left:
            found.append((column, column, (0, left)))
    return found


def _border_loom(scheme, front, back):
    """The loom of a border."""
    arcs = [overwritten(scheme, column, at + 1) for at, column in enumerate(front)]
    arcs.append(unchanged(scheme, len(front)))
    for column in back:
        arcs[-1].extend(overwritten(scheme, column, len(arcs)))
        arcs.append([])
    return Loom(scheme, arcs, [False] * (len(arcs) - 1) + [True])


def _turn_loom(scheme, by):
    """The loom of a turn. The one back is the inverse of the one forth."""
    if by == 0:
        return Loom.identity(scheme)
    # A state has the first column, and the column that must come next because it has been written.
    steps = {"": [(column, column, "end") for column in scheme.columns], "end": []}
    for first in scheme.columns:
        steps[""].extend([(first, column, first + column) for column in scheme.columns])
        for column in scheme.columns:
            onward = [(column, write, first + write) for write in scheme.columns]
            steps[first + column] = onward + [(column, first, "end")]
    forth = named_loom(scheme, steps, ["", "end"])
    return forth if by == 1 else ~forth
