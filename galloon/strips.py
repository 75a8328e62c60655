"""Strips: their order, their mirrored and turned forms, and rings."""

from galloon.errors import BadCount


def shortlex(strips):
    """The different strings of a list, the shorter ones first."""
    ranked = sorted({(len(strip), strip) for strip in strips})
    return [strip for _, strip in ranked]


def strips_of(scheme, length):
    """Yield all strips of exactly this length in order."""
    if length < 0:
        raise BadCount(length)
    kept = scheme.BLANK
    strip = scheme.BLANK * length
    while kept:
        yield strip
        kept = _raised(scheme, strip)
        strip = kept + scheme.BLANK * (length - len(kept))


def rings_of(scheme, length):
    """Yield the strips of this length that are their own least turn, in order.

    Such a strip repeats a word that is less than all its own turns. These words are
    made one after the other (Duval), so that no strip has to be tried and left out.
    """
    if length < 1:
        raise BadCount(length)
    word = scheme.BLANK
    while word:
        if length % len(word) == 0:
            yield word * (length // len(word))
        filled = word * (length // len(word) + 1)
        word = _raised(scheme, filled[:length])


def mirrored(strip):
    """The strip read from right to left."""
    return strip[::-1]


def turned(strip, by):
    """The strip with its first `by` columns moved to the end."""
    if not strip:
        return strip
    at = by % len(strip)
    return strip[at:] + strip[:at]


def least_turn(strip):
    """The first of all strips that `turned` makes of a strip."""
    if not strip:
        return strip
    return min([turned(strip, by) for by in range(len(strip))])


def _raised(scheme, strip):
    """The strip up to its last column that can be raised, with this column raised by one.

    It is empty if no column can be raised.
    """
    kept = strip.rstrip(scheme.columns[-1])
    if not kept:
        return ""
    raised = {lower: higher for lower, higher in zip(scheme.columns, scheme.columns[1:])}
    return kept[:-1] + raised[kept[-1]]
