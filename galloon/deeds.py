"""The base class of all deeds: what follows from a loom, the columns cut off, and mirroring."""

from galloon.bales import Bale
from galloon.schemes import check_alike
from galloon.strips import mirrored


class Deed:
    """What turns strips into strips.

    A subclass has its own `loom()` and `played(strip)`. Where its loom says a strip, the
    last `short` columns, which are blank, are taken away, and what remains is mirrored if
    `flips` is True.
    """

    def __init__(self, scheme):
        self.scheme = scheme
        self.short = 0
        self.flips = False
        # The loom, once it has been made: some looms take long to make.
        self._woven = None

    def loom(self):
        """The loom of the deed."""
        raise NotImplementedError("each kind of deed has its own loom")

    def played(self, strip):
        """The same list as that of `outs`, found without any loom."""
        raise NotImplementedError("each kind of deed is played in its own way")

    def outs(self, strip):
        """The list of the strips that the deed makes of a strip."""
        self.scheme.check(strip)
        woven = self.loom().outs(strip)
        return sorted([self._finished(text) for text in woven])

    def makes(self, before, after):
        """Does the deed make the second strip of the first one?"""
        self.scheme.check(before)
        self.scheme.check(after)
        unfinished = mirrored(after) if self.flips else after
        return self.loom().says(before, unfinished + self._blanks())

    def image(self, bale):
        """The bale of all strips that the deed makes of a strip of the bale."""
        check_alike(self, bale)
        kept = self.loom().image(bale)
        if self.short > 0:
            kept = kept.cut(0, self.short)
        return kept.mirrored() if self.flips else kept

    def source(self, bale):
        """The bale of all strips of which the deed makes a strip of the bale."""
        check_alike(self, bale)
        unfinished = bale.mirrored() if self.flips else bale
        if self.short > 0:
            unfinished = unfinished + Bale.listed(self.scheme, [self._blanks()])
        return self.loom().source(unfinished)

    def _blanks(self):
        """The columns that the deed cuts off."""
        return self.scheme.BLANK * self.short

    def _finished(self, text):
        """What becomes of a strip that the loom says."""
        kept = text[:len(text) - self.short]
        return mirrored(kept) if self.flips else kept


def written(text):
    """A word of a written form: the empty one is written as `-`."""
    return text if text else "-"
