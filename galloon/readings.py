"""Readings: the texts that a font prints as a given strip."""

from galloon.bales import firm_of
from galloon.errors import TooMany
from galloon.fonts import text_table
from galloon.schemes import check_alike
from galloon.strips import shortlex
from galloon.tables import backwards

MOST_READINGS = 200
GAP_SIGN = "-"
UNSURE = "?"


def how_many_readings(font, strip):
    """The number of the readings of a strip."""
    return _counts(reading_steps(font, strip))[0]


def readings(font, strip):
    """The list of the readings of a strip."""
    steps = reading_steps(font, strip)
    if _counts(steps)[0] > MOST_READINGS:
        raise TooMany(MOST_READINGS)
    found = []
    waiting = [("", 0)]
    while waiting:
        text, at = waiting.pop()
        if at == len(steps):
            found.append(text)
        else:
            waiting.extend([(text + letter, after) for letter, after in steps[at]])
    return shortlex(found)


def first_reading(font, strip):
    """The first reading of a strip, or None."""
    steps = reading_steps(font, strip)
    # For each index the first text that is printed from there to the end.
    best = {len(steps): (0, "")}
    for at in range(len(steps) - 1, -1, -1):
        texts = [letter + best[after][1] for letter, after in steps[at]]
        if texts:
            best[at] = min([(len(text), text) for text in texts])
    return best[0][1] if 0 in best else None


def first_text(font, bale):
    """The first text whose print belongs to a bale, or None."""
    check_alike(font, bale)
    rows, goods = firm_of(bale)
    if goods[0]:
        return ""
    queue = [("", 0)]
    seen = {-1: True}
    at = 0
    while at < len(queue):
        text, state = queue[at]
        for letter, glyph in font.glyphs:
            after = _state_behind(rows, state, font.gap + glyph if text else glyph)
            if after not in seen:
                if goods[after]:
                    return text + letter
                seen[after] = True
                queue.append((text + letter, after))
        at += 1
    return None


def ambiguous(font):
    """The first strip with several readings, and its first two, or None."""
    strip = _first_ambiguous(font)
    if strip is None:
        return None
    # Two readings of this strip never begin with the same letter, so there are few.
    found = readings(font, strip)
    return (strip, found[0], found[1])


def sure_letters(font, strip, *, torn=False):
    """For each column of a strip the letter that surely covers it, `-` or `?`; None without readings."""
    font.scheme.check(strip)
    arcs, goods = _labelled_table(font)
    every = list(range(len(arcs)))
    ends = every if torn else [state for state in every if goods[state]]
    layers = [{state: True for state in (every if torn else [0])}]
    for column in strip:
        layers.append(_reached(arcs, layers[-1], column))
    live = {state: True for state in ends if state in layers[-1]}
    back = backwards(arcs)
    told = ""
    for at in range(len(strip) - 1, -1, -1):
        steps = [(mark, before) for state in live for mark, before in back[state] if mark[0] == strip[at]]
        kept = [(mark, before) for mark, before in steps if before in layers[at]]
        labels = sorted({mark[1] for mark, _ in kept})
        told = (labels[0] if len(labels) == 1 else UNSURE) + told
        live = {before: True for _, before in kept}
    return told if live else None


def reading_steps(font, strip):
    """For each index of a strip the glyphs that may begin there: `(letter, next index)`.

    Only those that stand in a reading are kept. The next index is behind the gap, if one
    follows.
    """
    font.scheme.check(strip)
    steps = []
    for at, choices in enumerate(text_steps(font, len(strip))):
        fitting = [step for step in choices if piece(font, step[0], at, step[1]) == strip[at:step[1]]]
        steps.append(fitting)
    return live_steps(steps)


def text_steps(font, length):
    """For each index below a length the glyphs that may begin there, whatever the columns are."""
    found = []
    for at in range(length):
        steps = []
        for letter, glyph in font.glyphs:
            end = at + len(glyph)
            if end == length:
                steps.append((letter, end))
            elif end + len(font.gap) < length:
                steps.append((letter, end + len(font.gap)))
        found.append(steps)
    return found


def live_steps(steps):
    """The steps that lead to the end."""
    live = {len(steps): True}
    found = []
    for at in range(len(steps) - 1, -1, -1):
        kept = [(letter, after) for letter, after in steps[at] if after in live]
        if kept:
            live[at] = True
        found.append(kept)
    return found[::-1]


def piece(font, letter, at, after):
    """What a font prints in a step: a glyph, and the gap if one follows."""
    return (font[letter] + font.gap)[:after - at]


def _counts(steps):
    """For each index, and for the end, the number of texts that are printed from there to the end."""
    found = {len(steps): 1}
    for at in range(len(steps) - 1, -1, -1):
        found[at] = sum([found[after] for _, after in steps[at]])
    return found


def _state_behind(rows, state, strip):
    """The state of a firm table behind a strip, or -1."""
    for column in strip:
        if state >= 0:
            state = rows[state].get(column, -1)
    return state


def _labelled_table(font):
    """A loose table of all texts, where each mark is a column and the letter that covers it."""
    gap = [column + GAP_SIGN for column in font.gap]
    return text_table(gap, [[column + letter for column in glyph] for letter, glyph in font.glyphs])


def _reached(arcs, states, column):
    """The states to which a column leads from some states."""
    return {after: True for state in states for mark, after in arcs[state] if mark[0] == column}


def _first_ambiguous(font):
    """The first strip that has more than one reading, or None.

    Two walks that read the same are followed at once. All pairs of states to which a
    strip leads that no earlier strip leads to are kept together.
    """
    arcs, goods = _labelled_table(font)
    start = (0, 0, False)
    seen = {start: True}
    queue = [("", [start])]
    at = 0
    while at < len(queue):
        strip, pairs = queue[at]
        if any([apart and goods[one] and goods[other] for one, other, apart in pairs]):
            return strip
        for column in font.scheme.columns:
            fresh = [pair for pair in _pairs_behind(arcs, pairs, column) if pair not in seen]
            if fresh:
                queue.append((strip + column, fresh))
                seen.update({pair: True for pair in fresh})
        at += 1
    return None


def _pairs_behind(arcs, pairs, column):
    """The pairs of states to which a column leads; True in them tells that letters have differed."""
    found = {}
    for one, other, apart in pairs:
        for mark, after in arcs[one]:
            for label, beyond in arcs[other]:
                if mark[0] == column and label[0] == column:
                    found[(after, beyond, apart or mark != label)] = True
    return list(found)
