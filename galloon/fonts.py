"""Fonts: letters with their glyphs, and the gap between two glyphs."""

from galloon.bales import bale_of
from galloon.errors import BadFont, BadGlyph, BadLetter, DuplicateLetter, TooMany, UnknownLetter

ALPHABET = "ABCDEFGHIJKLMNOPQRSTUVWXYZ"
MOST_GAP = 3
MOST_GLYPH = 4


class Font:
    """A glyph for each of at most 6 letters, and a gap."""

    MOST = 6

    def __init__(self, scheme, gap, glyphs):
        check_gap(scheme, gap)
        if len(glyphs) > self.MOST:
            raise TooMany(self.MOST)
        told = {}
        for letter, glyph in glyphs:
            if not is_letter(letter):
                raise BadLetter(letter)
            if not scheme.is_strip(glyph) or not 1 <= len(glyph) <= MOST_GLYPH:
                raise BadGlyph(letter)
            if letter in told:
                raise DuplicateLetter(letter)
            told[letter] = glyph
        self.scheme = scheme
        self.gap = gap
        self.glyphs = [(letter, told[letter]) for letter in sorted(told)]
        self._told = told

    @classmethod
    def read(cls, scheme, text):
        """The font with this written form; the pieces may stand in any order."""
        parts = text.split("|")
        if len(parts) != 2:
            raise BadFont("text")
        glyphs = []
        for piece in parts[0].split(",") if parts[0] else []:
            pair = piece.split("=")
            if len(pair) != 2:
                raise BadFont("text")
            glyphs.append((pair[0], pair[1]))
        return cls(scheme, parts[1], glyphs)

    def __getitem__(self, letter):
        if letter not in self._told:
            raise UnknownLetter(letter, 0)
        return self._told[letter]

    def __iter__(self):
        raise TypeError("a font cannot be iterated over")

    def __contains__(self, letter):
        return letter in self._told

    def __len__(self):
        return len(self.glyphs)

    def __eq__(self, other):
        return (
            isinstance(other, Font)
            and self.scheme == other.scheme
            and self.gap == other.gap
            and self.glyphs == other.glyphs
        )

    def __str__(self):
        pieces = [f"{letter}={glyph}" for letter, glyph in self.glyphs]
        return f"{','.join(pieces)}|{self.gap}"

    def printed(self, text):
        """The strip of the glyphs of a text, with the gap between two neighbouring ones."""
        for place, letter in enumerate(text):
            if letter not in self._told:
                raise UnknownLetter(letter, place)
        return self.gap.join([self._told[letter] for letter in text])

    def bale(self):
        """The bale of all strips that the font prints."""
        arcs, goods = text_table(self.gap, [glyph for _, glyph in self.glyphs])
        return bale_of(self.scheme, arcs, [0], goods)


def check_gap(scheme, gap):
    """Raise BadFont("gap") if a string cannot be the gap of a font."""
    if not scheme.is_strip(gap) or len(gap) > MOST_GAP:
        raise BadFont("gap")


def is_letter(text):
    """Is a string one letter from A to Z?"""
    return len(text) == 1 and text in ALPHABET


def text_table(gap, glyphs):
    """The arcs and goods of a loose table (module tables) of the prints of all texts.

    The gap and each glyph are passed as strings of columns or as lists of any marks, and
    these marks are what the table reads. No two texts have the same walk.
    """
    arcs = [[], []]
    front = 1
    # Without glyphs nothing comes in front of a gap.
    for mark in gap if glyphs else []:
        arcs[front].append((mark, len(arcs)))
        front = len(arcs)
        arcs.append([])
    for glyph in glyphs:
        first = len(arcs)
        # The states behind each mark of the glyph: the last one is the end of any glyph.
        states = list(range(first, first + len(glyph) - 1)) + [1]
        for begin in sorted({0, front}):
            arcs[begin].append((glyph[0], states[0]))
        arcs.extend([[(mark, after)] for mark, after in zip(glyph[1:], states[1:])])
    return arcs, [True, True] + [False] * (len(arcs) - 2)
