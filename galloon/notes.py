"""Notes: deeds and workshops that are read from their written forms."""

from galloon.errors import BadDeed, BadWorkshop, GalloonError, TooMany
from galloon.fonts import Font
from galloon.masks import Mask
from galloon.mends import Once, Rest, Sweep
from galloon.paints import Paint
from galloon.passes import Border, FreePass, Gate, Pass, Stamp, Turn
from galloon.prints import FreePrint, Overprint, Recast
from galloon.rules import Rule
from galloon.shapes import Cut, Mirror
from galloon.workshops import Workshop

# For each first word what the other words of the form are.
FORMS = (
    ("pass", ("paint", "mask")),
    ("free", ("paint", "digit")),
    ("stamp", ("strip", "strip")),
    ("border", ("strip", "strip")),
    ("gate", ("strip",)),
    ("turn", ("by",)),
    ("once", ("rule",)),
    ("sweep", ("side", "rule")),
    ("rest", ("rule",)),
    ("print", ("digit", "strip", "font")),
    ("letters", ("font",)),
    ("recast", ("font", "font")),
    ("mirror", ()),
    ("cut", ("digit", "digit")),
)
DIGITS = ("0", "1", "2", "3", "4", "5", "6", "7", "8", "9")
STEPS = ("-1", "0", "1")
SIDES = ("right", "left")
EMPTY_WORD = "-"
BETWEEN = " ; "
NO_DEEDS = "keep"


def read_deed(scheme, text):
    """The deed with a written form."""
    words = text.split(" ")
    forms = [form for form in FORMS if form[0] == words[0]]
    if not forms:
        raise BadDeed(0)
    kinds = forms[0][1]
    if len(words) != len(kinds) + 1:
        raise BadDeed(min(len(words), len(kinds) + 1))
    for index, word in enumerate(words[1:], start=1):
        if not _is_fit(kinds[index - 1], word):
            raise BadDeed(index)
    parts = [_part(scheme, kind, word) for kind, word in zip(kinds, words[1:])]
    return _made(scheme, words[0], parts)


def read_workshop(scheme, text):
    """The workshop with a written form."""
    if text == NO_DEEDS:
        return Workshop(scheme, [])
    pieces = text.split(BETWEEN)
    if len(pieces) > Workshop.MOST:
        raise TooMany(Workshop.MOST)
    deeds = []
    for index, piece in enumerate(pieces):
        try:
            deed = read_deed(scheme, piece)
        except GalloonError as error:
            raise BadWorkshop(index) from error
        deeds.append(deed)
    return Workshop(scheme, deeds)


def _is_fit(kind, word):
    """May a word stand where a word of this kind should be?"""
    if kind == "digit":
        return word in DIGITS
    if kind == "by":
        return word in STEPS
    if kind == "side":
        return word in SIDES
    return word != ""


def _part(scheme, kind, word):
    """What a word of this kind tells."""
    if kind == "paint":
        return Paint.read(scheme, word)
    if kind == "mask":
        return Mask.read(word)
    if kind == "rule":
        return Rule.read(scheme, word)
    if kind == "font":
        return Font.read(scheme, word)
    if kind in ("digit", "by"):
        return int(word)
    return "" if word == EMPTY_WORD else word


def _made(scheme, word, parts):
    """The deed of the form that begins with a word, made of its parts."""
    if word in ("once", "sweep", "rest"):
        return _mend(word, parts)
    if word in ("print", "letters", "recast"):
        return _printing(word, parts)
    if word == "pass":
        return Pass(parts[0], parts[1])
    if word == "free":
        return FreePass(parts[0], gap=parts[1])
    if word == "stamp":
        return Stamp(scheme, parts[0], parts[1])
    if word == "border":
        return Border(scheme, parts[0], parts[1])
    if word == "gate":
        return Gate(scheme, parts[0])
    if word == "turn":
        return Turn(scheme, parts[0])
    if word == "cut":
        return Cut(scheme, parts[0], parts[1])
    return Mirror(scheme)


def _mend(word, parts):
    """The mend of a form, made of its parts."""
    if word == "once":
        return Once(parts[0])
    if word == "rest":
        return Rest(parts[0])
    return Sweep(parts[1], back=parts[0] == "left")


def _printing(word, parts):
    """The printing deed of a form, made of its parts."""
    if word == "print":
        return Overprint(parts[2], parts[1], parts[0])
    if word == "letters":
        return FreePrint(parts[0])
    return Recast(parts[0], parts[1])
