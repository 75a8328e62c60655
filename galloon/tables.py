"""Finite tables of states and letters, on which bales and looms rest.

The letters are strings: columns in a bale, pairs of columns in a loom. A loose table has
a list of arcs `(letter, next)` for each state; a letter may stand in several of them. A
firm table has a dict for each state, with at most one next state for each letter. Both
have `goods`, a list with one truth value for each state. State 0 is the start, unless a
list of starts is passed.
"""

# How many sets of states are made at first before another way is tried.
FIRST_SETS = 2000


def loosened(rows):
    """The arcs of the loose table that does the same as a firm one."""
    return [list(row.items()) for row in rows]


def backwards(arcs):
    """The arcs of a loose table, each leading back from its end to its beginning."""
    into = [[] for row in arcs]
    for state, row in enumerate(arcs):
        for letter, after in row:
            into[after].append((letter, state))
    return into


def live_states(arcs, goods):
    """For each state of a loose table True if a good state can be reached from it."""
    into = backwards(arcs)
    live = [bool(good) for good in goods]
    waiting = [state for state, good in enumerate(goods) if good]
    while waiting:
        state = waiting.pop()
        for _, before in into[state]:
            if not live[before]:
                live[before] = True
                waiting.append(before)
    return live


def trail(arcs, starts, most):
    """The sets of states after 0, 1, 2 .. arcs, and the index of the set that comes back.

    The list ends before a set stands in it twice. It ends after `most` arcs with the
    index -1, unless `most` is None.
    """
    sets = [tuple(sorted(set(starts)))]
    seen = {sets[0]: 0}
    while most is None or len(sets) <= most:
        latest = sets[-1]
        onward = tuple(sorted({after for state in latest for _, after in arcs[state]}))
        if onward in seen:
            return sets, seen[onward]
        seen[onward] = len(sets)
        sets.append(onward)
    return sets, -1


def leap(arcs, starts, times):
    """The ascending list of the states to which exactly `times` arcs lead."""
    sets, back = trail(arcs, starts, times)
    if times < len(sets):
        return list(sets[times])
    return list(sets[back + (times - back) % (len(sets) - back)])


def determined(arcs, starts, goods):
    """The firm table of a loose one.

    A state of the firm table is a set of states of the loose one. There may be very many
    such sets from left to right and few from right to left, or the other way round. So
    both are tried in turn, each time with more sets. What has been made firm from right
    to left and is then made firm from left to right is as small as it can be.
    """
    most = FIRST_SETS
    while True:
        firm = _firm_sets(arcs, starts, goods, most)
        if firm is not None:
            return firm
        firm = _turned_round(arcs, starts, goods, most)
        if firm is not None:
            rows, marks = firm
            return _turned_round(loosened(rows), [0], marks, None)
        most = most * 4


def is_tame_backwards(rows, goods):
    """Are there not very many sets of states if a firm table is read from its good states to its start?"""
    return _turned_round(loosened(rows), [0], goods, FIRST_SETS) is not None


def _turned_round(arcs, starts, goods, most):
    """The firm table of a loose one that is read from its good states to its starts."""
    ends = [state for state, good in enumerate(goods) if good]
    begun = set(starts)
    return _firm_sets(backwards(arcs), ends, [state in begun for state in range(len(arcs))], most)


def _firm_sets(arcs, starts, goods, most):
    """The firm table of the sets of live states, or None if there are more than `most`."""
    live = live_states(arcs, goods)
    first = tuple(sorted({state for state in starts if live[state]}))
    numbers = {first: 0}
    queue = [first]
    rows = []
    while len(rows) < len(queue):
        if most is not None and len(queue) > most:
            return None
        found = _onward(arcs, live, queue[len(rows)])
        row = {}
        for letter in sorted(found):
            states = tuple(sorted(set(found[letter])))
            if states not in numbers:
                numbers[states] = len(queue)
                queue.append(states)
            row[letter] = numbers[states]
        rows.append(row)
    return rows, [any([goods[state] for state in states]) for states in queue]


def _onward(arcs, live, states):
    """For each letter the live states that it leads to, perhaps more than once."""
    found = {}
    for state in states:
        for letter, after in arcs[state]:
            if live[after]:
                found.setdefault(letter, []).append(after)
    return found


def first_word(arcs, goods):
    """The first word that a loose table accepts, the shorter ones first, or None."""
    distances = _distances(arcs, goods)
    left = distances[0]
    if left < 0:
        return None
    word = ""
    states = [0]
    while left > 0:
        left -= 1
        onward = [arc for state in states for arc in arcs[state] if distances[arc[1]] == left]
        letter = min([arc[0] for arc in onward])
        states = sorted({after for found, after in onward if found == letter})
        word = word + letter
    return word


def _distances(arcs, goods):
    """For each state of a loose table the least number of arcs to a good state, or -1."""
    into = backwards(arcs)
    queue = [state for state, good in enumerate(goods) if good]
    distances = [0 if good else -1 for good in goods]
    at = 0
    while at < len(queue):
        state = queue[at]
        for _, before in into[state]:
            if distances[before] < 0:
                distances[before] = distances[state] + 1
                queue.append(before)
        at += 1
    return distances


def first_beyond(firm, loose):
    """The first word that a firm table `(rows, goods)` accepts and a loose one does not, or None.

    The loose table is passed as `(arcs, goods, starts)`. Both are read at once, the loose
    one by sets of states. The search ends at the first such word, however many sets there
    are behind it.
    """
    rows, goods = firm
    arcs, marks, starts = loose
    live = live_states(arcs, marks)
    queue = [(0, tuple(starts))]
    words = {queue[0]: ""}
    at = 0
    while at < len(queue):
        state, states = queue[at]
        word = words[queue[at]]
        if goods[state] and not any([marks[one] for one in states]):
            return word
        found = _onward(arcs, live, states)
        for letter in sorted(rows[state]):
            pair = (rows[state][letter], tuple(sorted(set(found.get(letter, [])))))
            if pair not in words:
                words[pair] = word + letter
                queue.append(pair)
        at += 1
    return None


def combined(first, second, wanted):
    """The firm table of what two firm tables `(rows, goods)` accept.

    `wanted` has three truth values: is it wanted what both accept, what only the first
    one accepts, and what only the second one accepts. A state -1 has got lost.
    """
    rows, goods = first
    others, marks = second
    numbers = {(0, 0): 0}
    queue = [(0, 0)]
    found = []
    while len(found) < len(queue):
        one, other = queue[len(found)]
        left = rows[one] if one >= 0 else {}
        right = others[other] if other >= 0 else {}
        row = {}
        for letter in {**left, **right}:
            pair = (left.get(letter, -1), right.get(letter, -1))
            if not _hopeful(pair[0] >= 0, pair[1] >= 0, wanted):
                continue
            if pair not in numbers:
                numbers[pair] = len(queue)
                queue.append(pair)
            row[letter] = numbers[pair]
        found.append(row)
    ends = [(one >= 0 and goods[one], other >= 0 and marks[other]) for one, other in queue]
    return found, [_is_wanted(end[0], end[1], wanted) for end in ends]


def _hopeful(one, other, wanted):
    """Can something wanted still come where one and the other table are not lost?"""
    return (one and other) or (one and wanted[1]) or (other and wanted[2])


def _is_wanted(one, other, wanted):
    """Is it wanted what one and the other table accept, or do not?"""
    if one and other:
        return wanted[0]
    return (one and wanted[1]) or (other and wanted[2])


def least(rows, goods):
    """The least firm table, with its letters in ascending order."""
    live = live_states(loosened(rows), goods)
    kept = [{letter: row[letter] for letter in row if live[row[letter]]} for row in rows]
    return _numbered(kept, goods, _classes(kept, goods))


def _classes(rows, goods):
    """For each state a number: states have the same one if they allow the same.

    The table leads to live states only. Blocks of states are split until no block leads
    apart. Where a block is split that has been looked at, the lesser piece is enough.
    """
    into = backwards(loosened(rows))
    place = [0 if good else 1 for good in goods]
    blocks = [{}, {}]
    for state, number in enumerate(place):
        blocks[number][state] = True
    waiting = [0, 1]
    queued = [True, True]
    while waiting:
        at = waiting.pop()
        queued[at] = False
        lists = _leading_into(into, list(blocks[at]))
        for states in lists:
            pieces = _by_place(place, states)
            for piece in pieces:
                number = place[piece[0]]
                if len(piece) == len(blocks[number]):
                    continue
                for state in piece:
                    place[state] = len(blocks)
                    del blocks[number][state]
                lesser = len(piece) <= len(blocks[number])
                chosen = len(blocks) if queued[number] or lesser else number
                blocks.append({state: True for state in piece})
                queued.append(False)
                queued[chosen] = True
                waiting.append(chosen)
    return place


def _leading_into(into, states):
    """For each letter the list of the states that it leads to one of the given states."""
    found = {}
    for state in states:
        for letter, before in into[state]:
            found.setdefault(letter, []).append(before)
    return list(found.values())


def _by_place(place, states):
    """The given states, in one list for each number of `place`."""
    found = {}
    for state in states:
        found.setdefault(place[state], []).append(state)
    return list(found.values())


def _numbered(rows, goods, place):
    """The table of the classes, in the order of the first walks that lead to them."""
    numbers = {place[0]: 0}
    queue = [0]
    found = []
    while len(found) < len(queue):
        old = rows[queue[len(found)]]
        row = {}
        for letter in sorted(old):
            after = old[letter]
            if place[after] not in numbers:
                numbers[place[after]] = len(queue)
                queue.append(after)
            row[letter] = numbers[place[after]]
        found.append(row)
    return found, [bool(goods[state]) for state in queue]
