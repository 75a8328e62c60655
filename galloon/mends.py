"""Mends: deeds that mend the spots of a row at once, one after the other, or until all rest."""

from galloon.deeds import Deed
from galloon.errors import TooMany
from galloon.looms import Loom, named_loom
from galloon.rules import END, all_mended, check_drift, mended, mendings
from galloon.schemes import DIGITS
from galloon.seams import first_views, seam_layers, seams, seams_behind

# So many strips are tried one by one before a strip is mended along its seams instead.
MOST_TRIED = 4000


class Mend(Deed):
    """The base class of the deeds that mend strips by a rule."""

    def __init__(self, rule):
        Deed.__init__(self, rule.scheme)
        self.rule = rule


class Once(Mend):
    """Mends all spots of the row at the same time."""

    KIND = "once"

    def __str__(self):
        return f"{self.KIND} {self.rule}"

    def loom(self):
        """The loom of the deed."""
        if self._woven is None:
            self._woven = _mend_loom(self.rule, False, False)
        return self._woven

    def played(self, strip):
        """The same list as that of `outs`, found by mending the strip."""
        self.scheme.check(strip)
        return [all_mended(self.rule, strip)]


class Sweep(Mend):
    """Mends one place after the other, from left to right or, with `back`, from right to left."""

    KIND = "sweep"

    def __init__(self, rule, *, back=False):
        Mend.__init__(self, rule)
        self.back = back

    def __str__(self):
        return f"{self.KIND} {'left' if self.back else 'right'} {self.rule}"

    def loom(self):
        """The loom of the deed."""
        if self._woven is None:
            self._woven = _mend_loom(self.rule, not self.back, self.back)
        return self._woven

    def played(self, strip):
        """The same list as that of `outs`, found by mending one place after the other."""
        self.scheme.check(strip)
        places = list(range(len(strip)))
        swept = strip
        for place in places[::-1] if self.back else places:
            swept = mended(self.rule, swept, place)
        return [swept]


class Rest(Mend):
    """Mends places in any order, as often as it changes something, until the strip rests."""

    KIND = "rest"

    def __init__(self, rule):
        check_drift(rule)
        Mend.__init__(self, rule)

    def __str__(self):
        return f"{self.KIND} {self.rule}"

    def loom(self):
        """The loom of the deed: its states are views (module seams)."""
        if self._woven is None:
            self._woven = _rest_loom(self.rule)
        return self._woven

    def played(self, strip):
        """The same list as that of `outs`, found by mending in all orders.

        There may be too many strips on the way to try them all; then only the orders of
        neighbouring changes are followed along this strip.
        """
        self.scheme.check(strip)
        found = _tried(self.rule, strip)
        if found is None:
            found = _followed(self.rule, strip)
        if len(found) > Loom.MOST_OUTS:
            raise TooMany(Loom.MOST_OUTS)
        return sorted(found)


def _mend_loom(rule, new_left, new_right):
    """The loom of mending each place once.

    A place sees its left neighbour as it was or, with `new_left`, as it has been mended,
    and its right neighbour likewise. A state has what the next place sees on its left,
    and what the place before it has seen on its right: nothing yet at the start.
    """
    start = (END, "")
    steps = {}
    waiting = [start]
    while waiting:
        state = waiting.pop()
        if state not in steps:
            steps[state] = _mend_arcs(rule, state, new_left, new_right)
            waiting.extend([after for _, _, after in steps[state]])
    return named_loom(rule.scheme, steps, [state for state in steps if state == start or state[1] == END])


def _mend_arcs(rule, state, new_left, new_right):
    """The arcs from one state of a loom that mends each place once."""
    left, seen = state
    scheme = rule.scheme
    found = []
    for column in scheme.columns:
        old = scheme.spots(column)[rule.row]
        for right in END + DIGITS[:scheme.colours]:
            new = rule.value(left, column, right)
            if seen in ("", new if new_right else old):
                written_column = scheme.recoloured(column, rule.row, 0, new)
                found.append((column, written_column, (new if new_left else old, right)))
    return found


def _rest_loom(rule):
    """The loom of mending until the strip rests."""
    beside = seams(rule)
    steps = {"": [arc for view in first_views(rule) for arc in _rest_arcs(rule, beside, view)], None: []}
    waiting = [after for _, _, after in steps[""]]
    while waiting:
        view = waiting.pop()
        if view not in steps:
            steps[view] = _rest_arcs(rule, beside, view)
            waiting.extend([after for _, _, after in steps[view]])
    return named_loom(rule.scheme, steps, ["", None])


def _rest_arcs(rule, beside, view):
    """The arcs from a view: the column of the place is read, and its last column is written."""
    scheme = rule.scheme
    history, _ = view
    found = []
    for column in scheme.columns:
        if scheme.spots(column)[rule.row] == history[0]:
            last = scheme.recoloured(column, rule.row, 0, history[-1])
            seams_here = seams_behind(rule, beside, column, view, True)
            found.extend([(column, last, following) for _, following in seams_here])
    return found


def _tried(rule, strip):
    """The resting strips that mending can reach, by trying all; None if too many are to be tried."""
    found = []
    seen = {strip: True}
    waiting = [strip]
    while waiting:
        latest = waiting.pop()
        restless_places = mendings(rule, latest)
        if not restless_places:
            found.append(latest)
        for place, column in restless_places:
            following = latest[:place] + column + latest[place + 1:]
            if following not in seen:
                seen[following] = True
                waiting.append(following)
        if len(seen) > MOST_TRIED:
            return None
    return found


def _followed(rule, strip):
    """The resting strips that mending can reach, found along the seams of one strip."""
    colours = DIGITS[:rule.scheme.colours]
    layers = seam_layers(rule, strip, [colours] * len(strip), True)
    # For each view the different beginnings of the strips that lead to it.
    begun = {view: {"": True} for view in layers[0]}
    for column, layer in zip(strip, layers):
        found = {}
        texts = {}
        for view in begun:
            last = rule.scheme.recoloured(column, rule.row, 0, view[0][-1])
            for text in begun[view]:
                texts[text + last] = True
                for _, after in layer[view]:
                    found.setdefault(after, {})[text + last] = True
        # Each beginning can be ended, and each one becomes another strip.
        if len(texts) > Loom.MOST_OUTS:
            raise TooMany(Loom.MOST_OUTS)
        begun = found
    return list(begun[None])
