"""Weights: how many spots a loom changes in each column, in the long run and at the worst.

A walk weighs `bottom` for each spot that it changes, less `top` for each of its arcs. A
fraction top / bottom is too small exactly if some ring of states weighs more than nothing.
"""

from math import gcd

from galloon.errors import BadCount, UnequalLengths


def changed(scheme, before, after):
    """The number of spots in which two strips of the same length differ."""
    scheme.check(before)
    scheme.check(after)
    if len(before) != len(after):
        raise UnequalLengths(len(before), len(after))
    return sum([_unlike_spots(scheme, one, other) for one, other in zip(before, after)])


def slope(loom):
    """The least fraction `(top, bottom)` of changed spots to columns, but for a constant."""
    worst = _worst_arcs(loom)
    top, bottom = _mean(worst, _worst_ring(worst))
    shared = gcd(top, bottom)
    return (top // shared, bottom // shared)


def weights(loom, top, bottom):
    """For each state the greatest weight of a walk that leads to it; None below the slope."""
    if top < 0:
        raise BadCount(top)
    if bottom < 1:
        raise BadCount(bottom)
    greatest, ring = _heaviest(_worst_arcs(loom), top, bottom)
    return None if ring else greatest


def weights_hold(loom, top, bottom, numbers):
    """Do these numbers of the states prove that a fraction is great enough?"""
    if len(numbers) != len(loom):
        return False
    for number, arcs in zip(numbers, loom.arcs):
        for read, write, after in arcs:
            if number + bottom * _unlike_spots(loom.scheme, read, write) - top > numbers[after]:
                return False
    return True


def worst_turn(loom):
    """The pairs of strips before, on and behind a ring that changes most spots, or None."""
    worst = _worst_arcs(loom)
    ring = _worst_ring(worst)
    if not ring:
        return None
    way_there = _walk(loom, 0, [state == ring[0] for state in range(len(loom))])
    round_trip = [worst[state][after] for state, after in _steps_round(ring)]
    reads = "".join([read for _, read, _ in round_trip])
    writes = "".join([write for _, _, write in round_trip])
    return (way_there, (reads, writes), _walk(loom, ring[0], loom.goods))


def _unlike_spots(scheme, one, other):
    """The number of spots in which two columns differ."""
    return sum([spot != also for spot, also in zip(scheme.spots(one), scheme.spots(other))])


def _worst_arcs(loom):
    """For each state a dict: for each next state `(changed, read, write)` of the worst arc there."""
    found = []
    for arcs in loom.arcs:
        row = {}
        for read, write, after in arcs:
            spots = _unlike_spots(loom.scheme, read, write)
            if after not in row or spots > row[after][0]:
                row[after] = (spots, read, write)
        found.append(row)
    return found


def _worst_ring(worst):
    """A ring of states with the greatest mean of changed spots, or an empty list.

    As long as some ring weighs more than nothing, its mean is greater than the last one.
    """
    found = []
    top, bottom = (-1, 1)
    while True:
        _, ring = _heaviest(worst, top, bottom)
        if not ring:
            return found
        found = ring
        top, bottom = _mean(worst, ring)


def _mean(worst, ring):
    """The changed spots and the arcs of a ring; nothing and 1 without a ring."""
    spots = sum([worst[state][after][0] for state, after in _steps_round(ring)])
    return (spots, max(1, len(ring)))


def _steps_round(ring):
    """The pairs of states that follow each other in a ring, the last and the first one too."""
    return list(zip(ring, ring[1:] + ring[:1]))


def _heaviest(worst, top, bottom):
    """The greatest weights of the walks to each state, and an empty list.

    If there are none, the list has a ring of states that weighs more than nothing: one
    appears among the states from which the greatest weights come.
    """
    greatest = {0: 0}
    before = {}
    fresh = [0]
    while fresh:
        found = {}
        for state in fresh:
            for after in worst[state]:
                weight = greatest[state] + bottom * worst[state][after][0] - top
                if after not in greatest or weight > greatest[after]:
                    greatest[after] = weight
                    before[after] = state
                    found[after] = True
        ring = _ring_among(before)
        if ring:
            return [], ring
        fresh = list(found)
    return [greatest[state] for state in range(len(worst))], []


def _ring_among(before):
    """A ring of states, in the order of the walk, where each one has one before it, or []."""
    seen = {}
    for begin in before:
        state = begin
        while state in before and state not in seen:
            seen[state] = begin
            state = before[state]
        if seen.get(state, -1) == begin:
            ring = [state]
            while before[ring[-1]] != state:
                ring.append(before[ring[-1]])
            return ring[::-1]
    return []


def _walk(loom, begin, ends):
    """What is read and what is written on a shortest walk from a state to one of the ends."""
    ways = {begin: ("", "")}
    queue = [begin]
    at = 0
    while not ends[queue[at]]:
        reads, writes = ways[queue[at]]
        for read, write, after in loom.arcs[queue[at]]:
            if after not in ways:
                ways[after] = (reads + read, writes + write)
                queue.append(after)
        at += 1
    return ways[queue[at]]
