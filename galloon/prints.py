"""Printing deeds: printing over a strip, printing a whole strip, and changing the font."""

from galloon.bales import Bale
from galloon.deeds import Deed, written
from galloon.errors import BadIndex, TooMany, UnequalFonts
from galloon.fonts import text_table
from galloon.looms import Loom, overwritten, unchanged
from galloon.readings import live_steps, piece, reading_steps, text_steps
from galloon.schemes import check_alike

MOST_PRINT = 8
MOST_AT = 8


class Overprint(Deed):
    """Replaces the columns from an index on by the print of a text."""

    KIND = "print"

    def __init__(self, font, text, at):
        if len(font.printed(text)) > MOST_PRINT:
            raise TooMany(MOST_PRINT)
        if not 0 <= at <= MOST_AT:
            raise BadIndex(at)
        Deed.__init__(self, font.scheme)
        self.font = font
        self.text = text
        self.at = at

    def __str__(self):
        return f"{self.KIND} {self.at} {written(self.text)} {self.font}"

    def loom(self):
        """The loom of the deed: its states are the places up to the end of the print."""
        if self._woven is None:
            arcs = [unchanged(self.scheme, place + 1) for place in range(self.at)]
            for column in self.font.printed(self.text):
                arcs.append(overwritten(self.scheme, column, len(arcs) + 1))
            arcs.append(unchanged(self.scheme, len(arcs)))
            self._woven = Loom(self.scheme, arcs, [False] * (len(arcs) - 1) + [True])
        return self._woven

    def played(self, strip):
        """The same list as that of `outs`, found by replacing columns."""
        self.scheme.check(strip)
        over = self.font.printed(self.text)
        behind = self.at + len(over)
        return [strip[:self.at] + over + strip[behind:]] if len(strip) >= behind else []


class FreePrint(Deed):
    """Prints any text that is as long as the strip."""

    KIND = "letters"

    def __init__(self, font):
        Deed.__init__(self, font.scheme)
        self.font = font

    def __str__(self):
        return f"{self.KIND} {self.font}"

    def loom(self):
        """The loom of the deed."""
        if self._woven is None:
            self._woven = Loom.crossed(Bale.every(self.scheme), self.font.bale())
        return self._woven

    def played(self, strip):
        """The same list as that of `outs`, found by printing letter by letter."""
        self.scheme.check(strip)
        return _prints(self.font, live_steps(text_steps(self.font, len(strip))))


class Recast(Deed):
    """Prints each reading of the strip by another font."""

    KIND = "recast"

    def __init__(self, old, new):
        check_alike(old, new)
        letters = sorted({letter for letter, _ in old.glyphs + new.glyphs})
        for letter in letters:
            if letter not in old or letter not in new or len(old[letter]) != len(new[letter]):
                raise UnequalFonts(letter)
        if len(old.gap) != len(new.gap):
            raise UnequalFonts("")
        Deed.__init__(self, old.scheme)
        self.old = old
        self.new = new

    def __str__(self):
        return f"{self.KIND} {self.old} {self.new}"

    def loom(self):
        """The loom of the deed: both fonts print side by side."""
        if self._woven is None:
            gap = list(zip(self.old.gap, self.new.gap))
            glyphs = [list(zip(glyph, self.new[letter])) for letter, glyph in self.old.glyphs]
            arcs, goods = text_table(gap, glyphs)
            woven = [[(mark[0], mark[1], after) for mark, after in row] for row in arcs]
            self._woven = Loom(self.scheme, woven, goods)
        return self._woven

    def played(self, strip):
        """The same list as that of `outs`, found along the readings of the strip."""
        return _prints(self.new, reading_steps(self.old, strip))


def print_menu(face, text, at):
    """The overprints with the fonts of a face, in order."""
    return [Overprint(font, text, at) for font in face.fonts()]


def _prints(font, steps):
    """The different strips that a font prints along steps, in order."""
    # For each index the different beginnings that are printed up to there.
    begun = {0: {"": True}}
    for at, choices in enumerate(steps):
        for letter, after in choices:
            longer = piece(font, letter, at, after)
            texts = {text + longer: True for text in begun.get(at, {})}
            begun.setdefault(after, {}).update(texts)
            # Each beginning can be ended, and each one becomes another strip.
            if len(begun[after]) > Loom.MOST_OUTS:
                raise TooMany(Loom.MOST_OUTS)
    return sorted(list(begun.get(len(steps), {})))
