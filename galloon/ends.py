"""Strips that are read from both ends at once, column by column towards the middle.

A node tells where both readings are. Its ways are a list of `(front, back, next)`: one
column from the front, one from the back, and the next node. A node closes strings of at
most one column: such a string may stand in the middle.
"""

# The place of a reading that has got lost.
LOST = (-1, -1)


class Ends:
    """A firm table `(rows, goods)` (module tables) that is read from both ends at once.

    A place is a pair of numbers: the state that is reached from the front, and a set of
    states from which what has been read at the back leads to a good state.
    """

    def __init__(self, firm):
        rows, goods = firm
        backs, sets = _read_backwards(rows, goods)
        self._rows = rows
        self._backs = backs
        self._sets = [{state: True for state in states} for states in sets]
        # For each state the states that it leads to, and which places are not lost.
        self._reached = {}
        self._hopes = {}

    def begun(self):
        """The place at which nothing has been read."""
        return self.hoped(0, 0)

    def fronts(self, place):
        """The letters that may come next at the front, each with the state it leads to."""
        return self._rows[place[0]] if place[0] >= 0 else {}

    def backs(self, place):
        """The letters that may come next at the back, each with the number of the set it leads to."""
        return self._backs[place[1]] if place[1] >= 0 else {}

    def hoped(self, state, number):
        """The place of a state and a set, or LOST if nothing leads from the state into the set."""
        if state < 0 or number < 0:
            return LOST
        if (state, number) not in self._hopes:
            reached = self._reach(state)
            self._hopes[(state, number)] = any([other in reached for other in list(self._sets[number])])
        return (state, number) if self._hopes[(state, number)] else LOST

    def meets(self, place):
        """May the front and the back meet here?"""
        return place[0] >= 0 and place[0] in self._sets[place[1]]

    def meets_over(self, place, letter):
        """May one more letter stand between the front and the back?"""
        after = self.fronts(place).get(letter, -1)
        return after >= 0 and after in self._sets[place[1]]

    def _reach(self, state):
        """A dict of the states to which a state leads."""
        if state not in self._reached:
            found = {state: True}
            waiting = [state]
            while waiting:
                row = self._rows[waiting.pop()]
                fresh = {after: True for after in row.values() if after not in found}
                found.update(fresh)
                waiting.extend(list(fresh))
            self._reached[state] = found
        return self._reached[state]


def steps_inwards(ends, place):
    """The ways of a place: one more letter at the front, one at the back, and the place that is reached."""
    fronts = ends.fronts(place)
    backs = ends.backs(place)
    found = [(front, back, ends.hoped(fronts[front], backs[back])) for front in fronts for back in backs]
    return [way for way in found if way[2] != LOST]


def first_from_ends(graph, starts):
    """The first strip that leads from a start to a node that closes it, or None.

    `graph` is an object with the methods `ways(node)` and `closings(node)`. `starts` has
    for each start the first of the strings, all of one length, that stand behind the
    strip in front of it; the strip is returned with that string.
    """
    layers = [list(starts)]
    seen = {node: True for node in starts}
    ways = {}
    while layers[-1]:
        latest = layers[-1]
        closed = {node: graph.closings(node) for node in latest}
        for length in (0, 1):
            ends = {node: [text for text in closed[node] if len(text) == length] for node in latest}
            ends = {node: ends[node] for node in ends if ends[node]}
            if ends:
                return _least_strip(_live_layers(layers, ways, ends), ways, ends, starts)
        fresh = {}
        for node in latest:
            ways[node] = graph.ways(node)
            fresh.update({after: True for _, _, after in ways[node] if after not in seen})
        seen.update(fresh)
        layers.append(list(fresh))
    return None


def _read_backwards(rows, goods):
    """The steps and the sets of a firm table that is read from its good states backwards.

    A set has the states from which the letters that have been read lead to a good state.
    """
    into = [[] for row in rows]
    for state, row in enumerate(rows):
        for letter in row:
            into[row[letter]].append((letter, state))
    sets = [tuple([state for state, good in enumerate(goods) if good])]
    numbers = {sets[0]: 0}
    backs = []
    while len(backs) < len(sets):
        found = {}
        for state in sets[len(backs)]:
            for letter, before in into[state]:
                found.setdefault(letter, []).append(before)
        row = {}
        for letter in found:
            states = tuple(sorted(found[letter]))
            if states not in numbers:
                numbers[states] = len(sets)
                sets.append(states)
            row[letter] = numbers[states]
        backs.append(row)
    return backs, sets


def _live_layers(layers, ways, ends):
    """For each layer a dict of those of its nodes that lead from layer to layer to the ends."""
    found = [ends]
    for layer in layers[-2::-1]:
        following = found[-1]
        found.append({node: True for node in layer if any([way[2] in following for way in ways[node]])})
    return found[::-1]


def _least_strip(live, ways, ends, starts):
    """The first strip along the layers: its front half counts first, then the middle, then the rest.

    The rest is read from the middle on, so from the last layer back to the first one.
    """
    passed = [list(live[0])]
    front = ""
    for following in live[1:]:
        onward = [way for node in passed[-1] for way in ways[node] if way[2] in following]
        column = min([way[0] for way in onward])
        front = front + column
        passed.append(list({way[2]: True for way in onward if way[0] == column}))
    middle = min([text for node in passed[-1] for text in ends[node]])
    kept = {node: True for node in passed[-1] if middle in ends[node]}
    back = ""
    for column, nodes in reversed(list(zip(front, passed))):
        led = [(way[1], node) for node in nodes for way in ways[node] if way[0] == column and way[2] in kept]
        least = min([letter for letter, _ in led])
        back = back + least
        kept = {node: True for letter, node in led if letter == least}
    return front + middle + back + min([starts[node] for node in kept])
