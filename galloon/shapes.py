"""Mirrors and cuts: the two kinds of deeds that change the shape of a strip."""

from galloon.cuts import cut_loom
from galloon.deeds import Deed
from galloon.errors import BadCount
from galloon.looms import Loom
from galloon.strips import mirrored

MOST_CUT = 4


class Mirror(Deed):
    """Reads the strip from right to left."""

    KIND = "mirror"

    def __init__(self, scheme):
        Deed.__init__(self, scheme)
        self.flips = True

    def __str__(self):
        return f"{self.KIND}"

    def loom(self):
        """The loom of the deed: the strip is mirrored behind it."""
        if self._woven is None:
            self._woven = Loom.identity(self.scheme)
        return self._woven

    def played(self, strip):
        """The same list as that of `outs`, found by mirroring the strip."""
        self.scheme.check(strip)
        return [mirrored(strip)]


class Cut(Deed):
    """Takes away the first `front` and the last `back` columns."""

    KIND = "cut"

    def __init__(self, scheme, front, back):
        for many in (front, back):
            if not 0 <= many <= MOST_CUT:
                raise BadCount(many)
        Deed.__init__(self, scheme)
        self.front = front
        self.back = back
        self.short = front + back

    def __str__(self):
        return f"{self.KIND} {self.front} {self.back}"

    def loom(self):
        """The loom of the deed: its states have the columns that are written before they are read."""
        if self._woven is None:
            self._woven = cut_loom(self.scheme, self.front, self.back)
        return self._woven

    def backward_loom(self):
        """The loom that cuts a mirrored strip, with the blanks behind what remains."""
        if self._backward is None:
            self._backward = cut_loom(self.scheme, self.back, self.front)
        return self._backward

    def played(self, strip):
        """The same list as that of `outs`, found by cutting the strip."""
        self.scheme.check(strip)
        if len(strip) < self.short:
            return []
        return [strip[self.front:len(strip) - self.back]]
