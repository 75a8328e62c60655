"""Questions about all strips: is a loom certain, is something lost, does a strip remain?"""

from galloon.bales import Bale, firm_of
from galloon.errors import BadCount, BadRow
from galloon.looms import Loom, by_read
from galloon.schemes import check_alike
from galloon.tables import first_beyond, first_word


def several(loom):
    """The first strip for which a loom says several, and the first two of these, or None."""
    strip = first_several(loom.scheme, [(loom.arcs, loom.goods, [0])])
    if strip is None:
        return None
    outs = loom.image(Bale.listed(loom.scheme, [strip]))
    one = outs.first()
    others = outs - Bale.listed(loom.scheme, [one])
    return (strip, one, others.first())


def melted(loom, bale):
    """The first strip said for several strips of a bale, and the first two of these, or None."""
    check_alike(loom, bale)
    return several(~loom.on(bale))


def lost_row(loom, bale, row):
    """The first strip that leaves a row unsure, and the first two strips that part there, or None."""
    check_alike(loom, bale)
    scheme = loom.scheme
    if not 0 <= row < scheme.rows:
        raise BadRow(row)
    back = ~loom.on(bale)
    spots = {column: scheme.spots(column)[row] for column in scheme.columns}
    out = _first_parted([(back.arcs, back.goods, [0])], spots)
    if out is None:
        return None
    befores = back.image(Bale.listed(scheme, [out]))
    one = befores.first()
    others = befores - _alike_in_row(scheme, one, row)
    return (out, one, others.first())


def left_out(loom, bale):
    """The first strip of a bale for which a loom says nothing, or None."""
    check_alike(loom, bale)
    arcs = [[(read, after) for read, _, after in leading] for leading in loom.arcs]
    return first_beyond(firm_of(bale), (arcs, loom.goods, [0]))


def unreached(loom, bale, wanted):
    """The first strip of the wanted ones that a loom says for no strip of a bale, or None."""
    check_alike(loom, bale)
    check_alike(loom, wanted)
    return left_out(~loom.on(bale), wanted)


def parted(first, second, bale):
    """The first strip of a bale for which two looms differ, and where they do so first, or None."""
    check_alike(first, second)
    check_alike(first, bale)
    apart = ((first - second) | (second - first)).on(bale)
    strip = first_word([[(read, after) for read, _, after in leading] for leading in apart.arcs], apart.goods)
    if strip is None:
        return None
    return (strip, apart.first_out(strip))


def cycle(loom, most):
    """How many products of a loom with itself come before one comes back, and after how many."""
    if most < 1:
        raise BadCount(most)
    powers = [Loom.identity(loom.scheme)]
    while len(powers) <= most:
        power = powers[-1] * loom
        for before, earlier in enumerate(powers):
            if earlier == power:
                return (before, len(powers) - before)
        powers.append(power)
    return None


def first_several(scheme, tables):
    """The first strip for which some tables together say more than one strip, or None.

    Each table has the arcs and the goods of a loom, which need not be least ones, and the
    list of its starts.
    """
    return _first_parted(tables, {column: column for column in scheme.columns})


def _first_parted(tables, marks):
    """The first strip for which tables say two strips whose columns have unlike marks, or None.

    Two walks that read the same are followed at once, each in any of the tables. All
    pairs to which a strip leads that no earlier strip leads to are kept together, so that
    the strips come in order.
    """
    choices, goods, starts = _side_by_side(tables)
    begun = [(one, other, False) for one in starts for other in starts if one <= other]
    seen = {pair: True for pair in begun}
    queue = [("", begun)]
    at = 0
    while at < len(queue):
        strip, pairs = queue[at]
        if any([apart and goods[one] and goods[other] for one, other, apart in pairs]):
            return strip
        found = _pairs_onward(choices, marks, pairs)
        for read in sorted(found):
            fresh = [pair for pair in found[read] if pair not in seen]
            if fresh:
                queue.append((strip + read, fresh))
                seen.update({pair: True for pair in fresh})
        at += 1
    return None


def _side_by_side(tables):
    """The steps, the goods and the starts of several tables in one."""
    choices = []
    goods = []
    starts = []
    for arcs, marks, begun in tables:
        many = len(choices)
        starts.extend([state + many for state in begun])
        for leading in arcs:
            choices.append(by_read([(read, write, after + many) for read, write, after in leading]))
        goods.extend(marks)
    return choices, goods, starts


def _pairs_onward(choices, marks, pairs):
    """For each column that is read a dict of the pairs to which it leads.

    A pair has two states, the lesser one first, and the truth value that tells whether
    unlike marks have been written.
    """
    found = {}
    for one, other, apart in pairs:
        for read in choices[one]:
            onward = found.setdefault(read, {})
            for left, after in choices[one][read]:
                for right, beyond in choices[other].get(read, []):
                    pair = (min(after, beyond), max(after, beyond), apart or marks[left] != marks[right])
                    onward[pair] = True
    return found


def _alike_in_row(scheme, strip, row):
    """The bale of the strips that have in one row the same colours as a strip."""
    colours = scheme.picture(strip)[row]
    rows = []
    for at, colour in enumerate(colours, start=1):
        rows.append([at if scheme.spots(column)[row] == colour else -1 for column in scheme.columns])
    return Bale(scheme, rows + [[-1] * len(scheme)], [False] * len(strip) + [True])
