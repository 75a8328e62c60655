"""Rings under a block: from which rings one comes, which ones cannot come, and where they lead.

A ring is walked around column by column: a word has the last columns that have been
read, and the walk must come back to the word with which it has begun.
"""

from galloon.blocks import windows_of, words_of
from galloon.errors import BadCount, TooMany
from galloon.strips import strips_of, turned

MOST_SOURCES = 200


def ring_sources(block, strip):
    """The list of the strips of which the block makes a strip as a ring."""
    block.scheme.check(strip)
    if not strip:
        return [strip]
    steps = _ring_steps(block)
    counts = {begin: _count_rounds(steps, strip, begin) for begin in steps}
    if sum(list(counts.values())) > MOST_SOURCES:
        raise TooMany(MOST_SOURCES)
    found = []
    for begin in steps:
        if counts[begin] > 0:
            # The first window of a ring ends with the column at the index `right`.
            found.extend([turned(walk, -block.right) for walk in _rounds(steps, strip, begin)])
    return sorted(found)


def how_many_sources(block, strip):
    """The number of the strips of which the block makes a strip as a ring."""
    block.scheme.check(strip)
    if not strip:
        return 1
    steps = _ring_steps(block)
    return sum([_count_rounds(steps, strip, begin) for begin in steps])


def barren_ring(block, length):
    """The first strip of a length that the block makes of no ring, or None."""
    if length < 1:
        raise BadCount(length)
    steps = _ring_steps(block)
    for strip in strips_of(block.scheme, length):
        if not any([_count_rounds(steps, strip, begin) for begin in steps]):
            return strip
    return None


def ring_rounds(block, strip):
    """After how many rounds a strip first comes back to itself for ever, and after how many more."""
    block.scheme.check(strip)
    seen = {}
    latest = strip
    while latest not in seen:
        seen[latest] = len(seen)
        latest = block.around(latest)
    return (seen[latest], len(seen) - seen[latest])


def _ring_steps(block):
    """For each word a dict: for each new column the pairs of a column to be read and the next word."""
    found = {word: {} for word in words_of(block.scheme, block.left + block.right)}
    news = windows_of(block)
    for window in news:
        found[window[:-1]].setdefault(news[window], []).append((window[-1], window[1:]))
    return found


def _count_rounds(steps, strip, begin):
    """The number of the walks from a word back to itself on which a strip is made."""
    counts = {begin: 1}
    for new in strip:
        found = {}
        for word in counts:
            for _, after in steps[word].get(new, []):
                found[after] = found.get(after, 0) + counts[word]
        counts = found
    return counts.get(begin, 0)


def _rounds(steps, strip, begin):
    """The columns that are read on the walks from a word back to itself on which a strip is made."""
    # For each number of new columns still to be made the words from which the walk can end well.
    ends = [{begin: True}]
    for new in strip[::-1]:
        well = ends[-1]
        ends.append({word: True for word in steps if any([after in well for _, after in steps[word].get(new, [])])})
    walks = [("", begin)]
    for at, new in enumerate(strip):
        well = ends[len(strip) - 1 - at]
        walks = [
            (walk + column, after)
            for walk, word in walks for column, after in steps[word].get(new, []) if after in well
        ]
    return [walk for walk, _ in walks]
