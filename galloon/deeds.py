"""The base class of all deeds: what follows from a loom, the columns cut off, and mirroring."""

from galloon.bales import Bale
from galloon.cuts import cut_loom
from galloon.schemes import check_alike
from galloon.strips import mirrored


class Deed:
    """What turns strips into strips.

    A subclass has its own `loom()` and `played(strip)`. Where its loom says a strip, the
    last `short` columns, which are blank, are taken away, and what remains is mirrored if
    `flips` is True.
    """

    def __init__(self, scheme):
        self.scheme = scheme
        self.short = 0
        self.flips = False
        # The looms, once they have been made: some looms take long to make.
        self._woven = None
        self._backward = None

    def loom(self):
        """The loom of the deed."""
        raise NotImplementedError("each kind of deed has its own loom")

    def backward_loom(self):
        """The loom that does on mirrored strips what the deed does, with the blanks behind what remains."""
        if self._backward is None:
            turned_round = self.loom().mirrored()
            # It writes the blanks at the front.
            moving = cut_loom(self.scheme, self.short, 0)
            self._backward = turned_round * moving if self.short > 0 else turned_round
        return self._backward

    def woven_on(self, bale):
        """What the loom of the deed says for the strips of a bale."""
        return self.loom().on(bale)

    def played(self, strip):
        """The same list as that of `outs`, found without any loom."""
        raise NotImplementedError("each kind of deed is played in its own way")

    def outs(self, strip):
        """The list of the strips that the deed makes of a strip."""
        self.scheme.check(strip)
        woven = self.loom().outs(strip)
        return sorted([self._finished(text) for text in woven])

    def makes(self, before, after):
        """Does the deed make the second strip of the first one?"""
        self.scheme.check(before)
        self.scheme.check(after)
        kept = mirrored(after) if self.flips else after
        return self.loom().says(before, kept + self.scheme.BLANK * self.short)

    def image(self, bale):
        """The bale of all strips that the deed makes of a strip of the bale."""
        check_alike(self, bale)
        kept = self.loom().image(bale)
        if self.short > 0:
            kept = kept.cut(0, self.short)
        return kept.mirrored() if self.flips else kept

    def source(self, bale):
        """The bale of all strips of which the deed makes a strip of the bale."""
        check_alike(self, bale)
        return self.loom().source(unfinished(bale, self.short, self.flips))

    def _finished(self, text):
        """What becomes of a strip that the loom says."""
        kept = text[:len(text) - self.short]
        return mirrored(kept) if self.flips else kept


def unfinished(bale, short, flips):
    """The bale of what a loom must say, so that strips of a bale are made in the end."""
    kept = bale.mirrored() if flips else bale
    if short == 0:
        return kept
    return kept + Bale.listed(bale.scheme, [bale.scheme.BLANK * short])


def written(text):
    """A word of a written form: the empty one is written as `-`."""
    return text if text else "-"
