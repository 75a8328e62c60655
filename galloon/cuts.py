"""The looms of cuts, which move columns to the front and write blanks behind them."""

from galloon.looms import Loom, named_loom


def cut_loom(scheme, front, back):
    """The loom that says what remains without the first and the last columns, and as many blanks behind it.

    A state has the number of columns to be cut off in front, the columns that have been
    written and must still be read, and how many columns stand behind these; the last
    number is None as long as not all that remains has been written.
    """
    if front + back == 0:
        return Loom.identity(scheme)
    steps = {}
    waiting = [(front, "", None)]
    while waiting:
        state = waiting.pop()
        if state not in steps:
            steps[state] = _cut_arcs(scheme, back, state)
            waiting.extend([after for _, _, after in steps[state]])
    return named_loom(scheme, steps, [(0, "", 0)])


def _cut_arcs(scheme, back, state):
    """The arcs from one state of a cut."""
    free, owed, behind = state
    if behind is not None:
        return _read_arcs(scheme, scheme.BLANK, state)
    found = _read_arcs(scheme, scheme.BLANK, (free, owed, back))
    for column in scheme.columns:
        found.extend(_read_arcs(scheme, column, (free, owed + column, None)))
    return found


def _read_arcs(scheme, write, state):
    """The arcs that write one column, where the next column is read as a state tells."""
    free, owed, behind = state
    if free > 0:
        return [(read, write, (free - 1, owed, behind)) for read in scheme.columns]
    if owed:
        return [(owed[0], write, (0, owed[1:], behind))]
    if behind is not None and behind > 0:
        return [(read, write, (0, "", behind - 1)) for read in scheme.columns]
    return []
