"""Faces: fonts whose widths nobody has told."""

from galloon.bales import differing
from galloon.errors import BadGlyph, BadIndex, BadLetter, DuplicateLetter, TooMany, UnknownLetter
from galloon.fonts import Font, check_gap, is_letter
from galloon.readings import how_many_readings
from galloon.strips import shortlex

MOST_PARTS = 3
MOST_WIDTH = 4
MOST_WAYS = 24


class Face:
    """A gap, and for each letter the columns of its glyph, each with its least and its most number."""

    def __init__(self, scheme, gap, letters):
        check_gap(scheme, gap)
        if len(letters) > Font.MOST:
            raise TooMany(Font.MOST)
        told = {}
        for letter, parts in letters:
            if not is_letter(letter):
                raise BadLetter(letter)
            if not _are_parts(scheme, parts):
                raise BadGlyph(letter)
            if letter in told:
                raise DuplicateLetter(letter)
            told[letter] = _glyphs_of(parts)
        ways = 1
        for letter in told:
            ways = ways * len(told[letter])
        if ways > MOST_WAYS:
            raise TooMany(MOST_WAYS)
        self.scheme = scheme
        self._letters = sorted(told)
        self._fonts = [Font(scheme, gap, glyphs) for glyphs in _choices(told)]

    def __len__(self):
        return len(self._fonts)

    def fonts(self):
        """The fonts of all ways to choose the widths, in ascending order of these."""
        return list(self._fonts)

    def fitting(self, strips):
        """The indexes of the fonts that print each strip of a list."""
        for strip in strips:
            self.scheme.check(strip)
        found = []
        for index, font in enumerate(self._fonts):
            if all([how_many_readings(font, strip) > 0 for strip in strips]):
                found.append(index)
        return found

    def widths(self, letter, strips):
        """The numbers of columns that the glyph of a letter has in the fitting fonts."""
        if letter not in self._letters:
            raise UnknownLetter(letter, 0)
        return sorted({len(self._fonts[index][letter]) for index in self.fitting(strips)})

    def parting(self, one, other):
        """The first strip that exactly one of two fonts prints, or None."""
        for index in (one, other):
            if not 0 <= index < len(self._fonts):
                raise BadIndex(index)
        return differing(self._fonts[one].bale(), self._fonts[other].bale())

    def shown(self, strips, length):
        """The first short strip that some, but not all, of the fitting fonts print, or None."""
        bales = [self._fonts[index].bale() for index in self.fitting(strips)]
        # What some but not all print parts the first one from another one.
        apart = [differing(bales[0], bale) for bale in bales[1:]]
        found = shortlex([strip for strip in apart if strip is not None])
        return found[0] if found and len(found[0]) <= length else None


def _are_parts(scheme, parts):
    """Are these the parts of a glyph?"""
    if not 1 <= len(parts) <= MOST_PARTS:
        return False
    if not all([scheme.is_column(column) and 1 <= least <= most for column, least, most in parts]):
        return False
    columns = [column for column, _, _ in parts]
    if any([column == following for column, following in zip(columns, columns[1:])]):
        return False
    return sum([most for _, _, most in parts]) <= MOST_WIDTH


def _glyphs_of(parts):
    """All glyphs with these parts, in ascending order of their widths."""
    found = [""]
    for column, least, most in parts:
        found = [glyph + column * times for glyph in found for times in range(least, most + 1)]
    return found


def _choices(told):
    """For each way to choose one glyph for each letter the list of pairs of a letter and its glyph."""
    found = [[]]
    for letter in sorted(told):
        found = [chosen + [(letter, glyph)] for chosen in found for glyph in told[letter]]
    return found
