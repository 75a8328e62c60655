"""Closed tables: finite lists that prove something of a loom for strips of any length."""

from galloon.looms import by_read
from galloon.schemes import check_alike


def pairs_hold(first, second, rows):
    """Is a list of pairs of states a closed pair table of two looms?"""
    check_alike(first, second)
    told = {(one, other): True for one, other in rows}
    if len(told) != len(rows) or (0, 0) not in told:
        return False
    ahead = [_steps(leading) for leading in second.arcs]
    for one, other in told:
        if not _is_state(first, one) or not _is_state(second, other):
            return False
        if first.goods[one] and not second.goods[other]:
            return False
        steps = ahead[other]
        if not all([(after, steps.get((read, write), -1)) in told for read, write, after in first.arcs[one]]):
            return False
    return True


def pair_rows(first, second):
    """The ascending list of the pairs to which equal columns lead, if the first is within the second."""
    check_alike(first, second)
    if not first.within(second):
        return None
    ahead = [_steps(leading) for leading in second.arcs]
    found = {(0, 0): True}
    waiting = [(0, 0)]
    while waiting:
        one, other = waiting.pop()
        for read, write, after in first.arcs[one]:
            pair = (after, ahead[other][(read, write)])
            if pair not in found:
                found[pair] = True
                waiting.append(pair)
    return sorted(list(found))


def certain_holds(loom, rows):
    """Is a list of triples a closed certain table of a loom?"""
    told = {(one, other, apart): True for one, other, apart in rows}
    if len(told) != len(rows) or (0, 0, False) not in told:
        return False
    choices = [by_read(leading) for leading in loom.arcs]
    for triple in told:
        one, other, _ = triple
        if not _is_state(loom, one) or not _is_state(loom, other):
            return False
        if _is_parted(loom, triple):
            return False
        if not all([following in told for following in _onward(choices, triple)]):
            return False
    return True


def certain_rows(loom):
    """The ascending list of the triples that each closed certain table has, if there is one."""
    choices = [by_read(leading) for leading in loom.arcs]
    found = {(0, 0, False): True}
    waiting = [(0, 0, False)]
    while waiting:
        triple = waiting.pop()
        if _is_parted(loom, triple):
            return None
        for following in _onward(choices, triple):
            if following not in found:
                found[following] = True
                waiting.append(following)
    return sorted(list(found))


def _is_state(loom, number):
    """Has the loom a state of this number?"""
    return 0 <= number < len(loom)


def _steps(leading):
    """For each pair of columns that the arcs of a state have, the next state."""
    return {(read, write): after for read, write, after in leading}


def _is_parted(loom, triple):
    """Have two walks that end well written different columns?"""
    one, other, apart = triple
    return apart and loom.goods[one] and loom.goods[other]


def _onward(choices, triple):
    """The triples to which two arcs lead that read the same column."""
    one, other, apart = triple
    return [
        (after, beyond, apart or left != right)
        for read in choices[one]
        for left, after in choices[one][read]
        for right, beyond in choices[other].get(read, [])
    ]
