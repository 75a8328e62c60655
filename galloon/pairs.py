"""Pairs of strips that are read at once, as long as a block makes the same of both.

A node is a pair of strips of the same length, the last columns that have been read. Its
ways are the list of the nodes to which one more column on either side leads where the
new columns are the same. A node is split if its two strips differ.
"""

from math import gcd


def pair_ways(news):
    """The ways of all nodes, where `news` has the new column for each window."""
    onward = {}
    for window in news:
        behind = onward.setdefault(window[:-1], {})
        behind.setdefault(news[window], []).append(window[1:])
    found = {}
    for one in onward:
        for other in onward:
            both = [new for new in onward[one] if new in onward[other]]
            found[(one, other)] = [
                (after, beyond) for new in both for after in onward[one][new] for beyond in onward[other][new]
            ]
    return found


def is_split(node):
    """Do the two strips of a node differ?"""
    return node[0] != node[1]


def marked_ways(ways):
    """The ways of all nodes with a mark: True if a node on the walk so far has been split."""
    found = {}
    for node in ways:
        for mark in [True] if is_split(node) else [False, True]:
            found[(node[0], node[1], mark)] = [(one, other, mark or one != other) for one, other in ways[node]]
    return found


def backward_ways(ways):
    """For each node the list of the nodes that lead to it."""
    found = {node: [] for node in ways}
    for node in ways:
        for after in ways[node]:
            found[after].append(node)
    return found


def lasting_ways(ways):
    """The ways of the nodes that stand in walks without a beginning and without an end."""
    back = backward_ways(ways)
    ahead = {node: len(ways[node]) for node in ways}
    behind = {node: len(back[node]) for node in ways}
    waiting = [node for node in ways if ahead[node] == 0 or behind[node] == 0]
    gone = {node: True for node in waiting}
    while waiting:
        node = waiting.pop()
        for before in back[node]:
            ahead[before] -= 1
        for after in ways[node]:
            behind[after] -= 1
        for beside in back[node] + ways[node]:
            if beside not in gone and (ahead[beside] == 0 or behind[beside] == 0):
                gone[beside] = True
                waiting.append(beside)
    return {node: [after for after in ways[node] if after not in gone] for node in ways if node not in gone}


def distances_to(back, ends, most):
    """For each node the least number of steps to one of the ends, if it is at most `most`.

    `back` has the ways backwards. Without a limit `most` is None.
    """
    found = {node: 0 for node in ends}
    fresh = list(found)
    steps = 0
    while fresh and (most is None or steps < most):
        steps += 1
        reached = [before for node in fresh for before in back[node] if before not in found]
        fresh = list({node: True for node in reached})
        found.update({node: steps for node in fresh})
    return found


def shortest_round(ways):
    """The least number of steps by which a split node comes back to itself, or None."""
    best = None
    for part in _knots(ways):
        inside = {node: True for node in part}
        kept = {node: [after for after in ways[node] if after in inside] for node in part}
        # No round of this part has fewer steps than this.
        least = _period(kept, part[0])
        for node in part:
            if best is not None and best <= least:
                break
            steps = _steps_round(kept, node, best) if is_split(node) else None
            best = best if steps is None else steps
    return best


def first_walk(ways, distances, start, steps):
    """The first two strips that are read on walks with so many steps: the first one counts first.

    `distances` has for each node the least number of steps to an end. The walks begin at
    one node, and no shorter walk leads from it to an end.
    """
    layers = [[start]]
    one = ""
    for left in range(steps - 1, -1, -1):
        found = {}
        for node in layers[-1]:
            for after in ways[node]:
                if distances.get(after, -1) == left:
                    found.setdefault(after[0][-1], {})[after] = True
        column = min(list(found))
        one = one + column
        layers.append(list(found[column]))
    return one, _first_other(ways, _leading(ways, layers), start)


def _leading(ways, layers):
    """For each layer a dict of those of its nodes that lead from layer to layer to the end."""
    found = [{node: True for node in layers[-1]}]
    for layer in layers[-2::-1]:
        following = found[-1]
        found.append({node: True for node in layer if any([after in following for after in ways[node]])})
    return found[::-1]


def _first_other(ways, layers, start):
    """The first strip that is read on the second side of the walks through some layers."""
    nodes = [start]
    other = ""
    for layer in layers[1:]:
        onward = [after for node in nodes for after in ways[node] if after in layer]
        column = min([after[1][-1] for after in onward])
        other = other + column
        nodes = list({after: True for after in onward if after[1][-1] == column})
    return other


def _knots(ways):
    """The lists of nodes that lead to each other, each node in one of them."""
    back = backward_ways(ways)
    found = []
    seen = {}
    for begin in _finished(ways)[::-1]:
        if begin not in seen:
            seen[begin] = True
            part = [begin]
            at = 0
            while at < len(part):
                fresh = [before for before in back[part[at]] if before not in seen]
                seen.update({before: True for before in fresh})
                part.extend(list({before: True for before in fresh}))
                at += 1
            found.append(part)
    return found


def _finished(ways):
    """All nodes; each one stands behind those to which it leads, unless they lead back to it."""
    found = []
    seen = {}
    for begin in ways:
        if begin not in seen:
            seen[begin] = True
            waiting = [(begin, 0)]
            while waiting:
                node, at = waiting.pop()
                if at == len(ways[node]):
                    found.append(node)
                    continue
                waiting.append((node, at + 1))
                after = ways[node][at]
                if after not in seen:
                    seen[after] = True
                    waiting.append((after, 0))
    return found


def _period(ways, start):
    """The greatest common divisor of the lengths of all rounds, where all nodes lead to each other.

    It is 0 if there is no round.
    """
    far = distances_to(ways, [start], None)
    period = 0
    for node in ways:
        for after in ways[node]:
            period = gcd(period, far[node] + 1 - far[after])
    return abs(period)


def _steps_round(ways, node, limit):
    """The least number of steps, fewer than the limit, by which a node comes back to itself, or None."""
    fresh = [node]
    seen = {}
    steps = 0
    while fresh and (limit is None or steps + 1 < limit):
        steps += 1
        reached = [after for begin in fresh for after in ways[begin] if after not in seen]
        fresh = list({after: True for after in reached})
        seen.update({after: True for after in fresh})
        if node in seen:
            return steps
    return None
