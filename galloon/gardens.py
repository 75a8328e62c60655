"""Gardens: what a block can never make, and what it makes of several strips."""

from galloon.bales import Bale, firm_of
from galloon.blocks import Block, is_narrow, windows_of, words_of
from galloon.endless import Endless
from galloon.errors import TooWide
from galloon.pairs import (
    backward_ways,
    distances_to,
    first_walk,
    is_split,
    lasting_ways,
    marked_ways,
    pair_ways,
    shortest_round,
)
from galloon.strips import turned
from galloon.tables import first_beyond


def orphan(block):
    """The first strip that the block makes of no strip, or None."""
    # A block has an orphan exactly if it has twins, and it is found sooner that there are none.
    if twins(block) is None:
        return None
    news = windows_of(block)
    words = words_of(block.scheme, block.left + block.right)
    numbers = {word: number for number, word in enumerate(words, start=1)}
    arcs = [[] for _ in range(len(words) + 1)]
    for window in news:
        arc = (news[window], numbers[window[1:]])
        arcs[numbers[window[:-1]]].append(arc)
        # State 0 is the start: a strip may begin behind any columns.
        arcs[0].append(arc)
    return first_beyond(firm_of(Bale.every(block.scheme)), (arcs, [True] * len(arcs), [0]))


def cover(block, strip):
    """The bale of all strips of whose windows the block makes a strip."""
    block.scheme.check(strip)
    news = windows_of(block)
    reach = block.left + block.right
    # What each column that is read completes: nothing at first, and then a column of the strip.
    wanted = [""] * reach + list(strip)
    # A state has the number of columns that have been read, and the last ones of them.
    states = [(0, "")]
    numbers = {states[0]: 0}
    rows = []
    while len(rows) < len(states):
        many, last = states[len(rows)]
        row = []
        for column in block.scheme.columns:
            if many == len(wanted) or news.get(last + column, "") != wanted[many]:
                row.append(-1)
                continue
            after = (many + 1, _latest(last + column, reach))
            if after not in numbers:
                numbers[after] = len(states)
                states.append(after)
            row.append(numbers[after])
        rows.append(row)
    return Bale(block.scheme, rows, [many == len(wanted) for many, _ in states])


def twins(block):
    """The first two strips that become the same in the same surroundings, or None."""
    news = windows_of(block)
    if block.left + block.right == 0:
        return _first_equal(news)
    ways = pair_ways(news)
    meeting = [node for node in ways if not is_split(node)]
    distances = distances_to(backward_ways(ways), meeting, None)
    least = None
    for node in meeting:
        steps = [distances[after] for after in ways[node] if is_split(after) and after in distances]
        if steps and (least is None or min(steps) < least[0]):
            least = (min(steps), node)
    if least is None:
        return None
    steps, start = least
    one, other = first_walk(ways, distances, start, steps + 1)
    return (start[0] + one, start[0] + other)


def twin_strips(block):
    """Two endless strips that differ at finitely many indexes and become the same, or None."""
    pair = twins(block)
    if pair is None:
        return None
    one, other = pair
    scheme = block.scheme
    blank = scheme.BLANK
    return (Endless(scheme, blank, one, blank), Endless(scheme, blank, other, blank))


def fused(block):
    """The first two rings that become the same, or None."""
    ways = _lasting_pairs(block)
    steps = shortest_round(ways)
    if steps is None:
        return None
    marked = marked_ways(ways)
    back = backward_ways(marked)
    found = []
    for node in sorted(list(ways)):
        # A node has the first columns of two rings, again and again; the lesser ones come first.
        if found and node[0] != found[-1][2]:
            break
        home = (node[0], node[1], True)
        distances = distances_to(back, [home], steps)
        start = (node[0], node[1], is_split(node))
        if steps - 1 in [distances.get(after, -1) for after in marked[start]]:
            one, other = first_walk(marked, distances, start, steps)
            begun = -len(node[0])
            found.append((turned(one, begun), turned(other, begun), node[0]))
    one, other, _ = min(found)
    return (one, other)


def undone(block):
    """The block that takes every endless strip back, or None."""
    scheme = block.scheme
    if any([is_split(node) for node in _lasting_pairs(block)]):
        return None
    news = windows_of(block)
    reach = block.left + block.right
    # All strips of one length, and what becomes of them.
    pairs = [(word, "") for word in words_of(scheme, reach)]
    width = 1
    while is_narrow(scheme, width):
        longer = [(strip + column, made) for strip, made in pairs for column in scheme.columns]
        pairs = [(strip, made + news[_latest(strip, reach + 1)]) for strip, made in longer]
        for left in range(width):
            told = _told_by(pairs, block.left + left)
            if told is not None:
                results = "".join([told[made] for made in words_of(scheme, width)])
                return Block(scheme, left, width - 1 - left, results)
        width += 1
    raise TooWide()


def _latest(strip, many):
    """The last columns of a strip, at most so many."""
    return strip[max(0, len(strip) - many):]


def _first_equal(news):
    """The first two columns of which the same column is made, or None."""
    for one in news:
        for other in news:
            if one < other and news[one] == news[other]:
                return (one, other)
    return None


def _lasting_pairs(block):
    """The ways of the nodes (module pairs) that stand in two endless strips that become the same."""
    news = windows_of(block)
    if block.left + block.right == 0:
        # A node has at least one column.
        news = {window + column: news[window] for window in news for column in block.scheme.columns}
    return lasting_ways(pair_ways(news))


def _told_by(pairs, place):
    """For each result the column at one place of the strips that become it; None if they differ there."""
    found = {}
    for strip, made in pairs:
        if found.setdefault(made, strip[place]) != strip[place]:
            return None
    return found
