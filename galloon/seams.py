"""Seams: the orders in which the changes of neighbouring places may happen (point 44).

The history of a place is the string of its colours in the order of time. What a place
sees of a neighbour is such a string, too: the colour of the neighbour at each change of
the place, and at last its last colour; `#` each time at an end of the strip. A view has
two parts: the history of a place, and what it sees on its left.

The order of a seam is a tuple: for each change of the place on the right, how many
changes of the place on the left come before it.
"""

from galloon.rules import END
from galloon.schemes import DIGITS


def first_views(rule):
    """The views of a place that has no neighbour on its left."""
    return [(history, END * len(history)) for history in _histories(rule)]


def seams(rule):
    """For each history of a place the list of all seams that may stand on its right.

    A seam has three parts: what the place sees on its right, the order, and the view of
    the place on the right, which is None at the end of the strip.
    """
    every = _histories(rule)
    found = {}
    for history in every:
        found[history] = [(END * len(history), (), None)]
        for other in every:
            found[history].extend(_seams_between(history, other))
    return found


def seams_behind(rule, beside, column, view, resting):
    """The seams that may stand on the right of a place with this column and this view.

    Each one is a pair of the order and the next view. Each change of the place must be
    demanded by the rule; with `resting`, no further change may be demanded at last.
    """
    history, lefts = view
    scheme = rule.scheme
    columns = [scheme.recoloured(column, rule.row, 0, colour) for colour in history]
    found = []
    for rights, order, following in beside[history]:
        news = [rule.value(left, look, right) for left, look, right in zip(lefts, columns, rights)]
        if "".join(news[:-1]) == history[1:] and (not resting or news[-1] == history[-1]):
            found.append((order, following))
    return found


def seam_layers(rule, strip, lasts, resting):
    """For each column of a strip a dict: for each view the seams that may stand behind it.

    `lasts` has for each column the colours with which its history may end. Only views
    and seams are kept that stand in a sequence along the whole strip.
    """
    beside = seams(rule)
    line = rule.scheme.picture(strip)[rule.row]
    known = {}
    views = first_views(rule)
    layers = []
    for column, colour, ends in zip(strip, line, lasts):
        layer = {}
        for view in views:
            if view[0][0] == colour and view[0][-1] in ends:
                if (column, view) not in known:
                    known[(column, view)] = seams_behind(rule, beside, column, view, resting)
                layer[view] = known[(column, view)]
        layers.append(layer)
        views = list({after: True for view in layer for _, after in layer[view] if after is not None})
    return _ended(layers)


def _ended(layers):
    """The layers without the views and seams that do not lead to the end of the strip."""
    following = {None: []}
    found = []
    for layer in reversed(list(layers)):
        kept = {}
        for view in layer:
            onward = [(order, after) for order, after in layer[view] if after in following]
            if onward:
                kept[view] = onward
        found.append(kept)
        following = kept
    return found[::-1]


def _histories(rule):
    """All lists of colours that a place may have one after the other, as strings."""
    found = [""]
    for colour in DIGITS[:rule.scheme.colours]:
        found = found + [history + colour for history in found]
    rising = found[1:]
    return [history[::-1] for history in rising] if rule.drift == "down" else rising


def _seams_between(history, other):
    """The seams between two places with these histories."""
    found = []
    for order in _orders(len(other) - 1, len(history) - 1):
        lefts = "".join([history[before] for before in order]) + history[-1]
        rights = ""
        for at in range(len(history) - 1):
            rights = rights + other[len([before for before in order if before <= at])]
        found.append((rights + other[-1], order, (other, lefts)))
    return found


def _orders(many, most):
    """All tuples of so many numbers from 0 to `most`, none less than the one before it."""
    found = [()]
    for _ in range(many):
        found = [order + (last,) for order in found for last in range(order[-1] if order else 0, most + 1)]
    return found
