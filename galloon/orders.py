"""Orders of mending: do all come to the same rest, which is the shortest, how many steps are there?"""

from galloon.mends import Rest
from galloon.questions import several
from galloon.rules import all_mended, check_drift
from galloon.schemes import DIGITS, check_alike
from galloon.seams import seam_layers


def ends_alike(rule, bale):
    """The first strip of a bale that rests in several ways, and the first two of these, or None."""
    check_alike(rule, bale)
    return several(Rest(rule).loom().on(bale))


def schedule(rule, before, after):
    """A list of the fewest places whose mending, in this order, turns one strip into another, or None."""
    check_drift(rule)
    rule.scheme.check(before)
    rule.scheme.check(after)
    if len(before) != len(after):
        return None
    lasts = rule.scheme.picture(after)[rule.row]
    reached = [rule.scheme.recoloured(column, rule.row, 0, last) for column, last in zip(before, lasts)]
    if "".join(reached) != after:
        return None
    layers = seam_layers(rule, before, lasts, False)
    costs = _costs(layers, 1)
    if not costs[0]:
        return None
    return _lightest_order(layers, costs)


def span(rule, strip):
    """The least and the greatest number of mendings that bring a strip to rest."""
    check_drift(rule)
    rule.scheme.check(strip)
    colours = DIGITS[:rule.scheme.colours]
    layers = seam_layers(rule, strip, [colours] * len(strip), True)
    fewest = min(list(_costs(layers, 1)[0].values()))
    most = -min(list(_costs(layers, -1)[0].values()))
    return (fewest, most)


def settle(rule, strip):
    """The strip after all places have been mended at once until it rests, and how often that was."""
    check_drift(rule)
    rule.scheme.check(strip)
    out = strip
    rounds = 0
    following = all_mended(rule, out)
    while following != out:
        out = following
        rounds += 1
        following = all_mended(rule, out)
    return (out, rounds)


def _costs(layers, weight):
    """For each layer a dict: for each view the least cost of a sequence that begins with it.

    Each change costs `weight`. One more layer stands at the end of the strip.
    """
    found = [{None: 0}]
    for layer in reversed(list(layers)):
        beyond = found[-1]
        costs = {}
        for view in layer:
            changes = len(view[0]) - 1
            costs[view] = weight * changes + min([beyond[after] for _, after in layer[view]])
        found.append(costs)
    return found[::-1]


def _lightest_order(layers, costs):
    """The places of all changes in order of time, along a sequence of views with the least cost."""
    times = []
    order = ()
    view = _cheapest(costs[0], list(costs[0]))
    for place, layer in enumerate(layers):
        changes = len(view[0]) - 1
        times = _joined(times, place, order if place > 0 else (0,) * changes)
        chosen = _cheapest(costs[place + 1], [after for _, after in layer[view]])
        order = [told for told, after in layer[view] if after == chosen][0]
        view = chosen
    return times


def _cheapest(costs, views):
    """The first of some views with the least cost."""
    least = min([costs[view] for view in views])
    return [view for view in views if costs[view] == least][0]


def _joined(times, place, order):
    """The places in order of time, with the changes of one more place among them.

    Each of these stands directly behind as many changes of the place on its left as its
    number in `order` tells, so that nothing else of what was before it changes.
    """
    found = [place for before in order if before == 0]
    passed = 0
    for other in times:
        found.append(other)
        if other == place - 1:
            passed += 1
            now = [place for before in order if before == passed]
            found.extend(now)
    return found
