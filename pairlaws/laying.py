"""Rows, rings, layers and chains of square relations (S2.6)."""

from pairlaws.closing import are_names, closed, require_square
from pairlaws.errors import ComesRound
from pairlaws.relations import same_pairs
from pairlaws.sizes import best_pairing, least_touch


def _steps(r):
    """The pairs of two different names."""
    require_square(r)
    return r - same_pairs(r.sources())


def _peeled(steps):
    """The layers that can be taken off from below, and the names that are left, each with a name before it."""
    found = []
    left = steps.sources()
    layer = [x for x in left if not steps.column(x)]
    while layer:
        found.append(layer)
        left = [x for x in left if x not in layer]
        layer = [x for x in left if not any([z in left for z in steps.column(x)])]
    return (found, left)


def _ring_in(steps, left):
    """A ring of names of which each has another one of them before it."""
    names = [left[0]]
    before = left[0]
    while before not in names[:-1]:
        before = [z for z in steps.column(names[-1]) if z in left][0]
        names.append(before)
    # The names were found going back, and the last one closes the ring a second time.
    return names[names.index(before) + 1:][::-1]


def laid(r):
    """("row", names) with any row of r, or ("ring", names) with any ring."""
    steps = _steps(r)
    found, left = _peeled(steps)
    if left:
        return ("ring", _ring_in(steps, left))
    return ("row", [x for layer in found for x in layer])


def _is_row(steps, names):
    return len(names) == len(steps.sources()) and all([names.index(x) < names.index(y) for x, y in steps.pairs()])


def _is_ring(steps, names):
    return len(names) > 1 and all([(names[at - 1], names[at]) in steps for at in range(len(names))])


def judge_laid(r, value):
    """Whether a value, which may be any value, is ("row", names) with a row of r, or ("ring", names) with a ring."""
    steps = _steps(r)
    if not isinstance(value, tuple) or len(value) != 2 or not are_names(value[1], r.sources()):
        return False
    if value[0] == "row":
        return _is_row(steps, value[1])
    return value[0] == "ring" and _is_ring(steps, value[1])


def count_rows(r):
    """The number of rows of r."""
    steps = _steps(r)
    names = steps.sources()
    before = [sum([1 << names.index(z) for z in steps.column(x)]) for x in names]
    # counts[some] is the number of ways to begin a row with just the names whose places are bits of some.
    full = (1 << len(names)) - 1
    counts = [1] + [0] * full
    for some in range(full):
        for place in range(len(names)):
            is_new = (some >> place) & 1 == 0
            if is_new and before[place] & ~some == 0:
                counts[some | (1 << place)] += counts[some]
    return counts[full]


def _steps_without_ring(r):
    word, names = laid(r)
    if word == "ring":
        raise ComesRound(names)
    return _steps(r)


def thinned(r):
    """The least relation without pairs (x, x) that has the same rows as r."""
    reach = closed(_steps_without_ring(r))
    return reach - (reach >> reach)


def layers(r):
    """The layers of r: the names by their depths."""
    return _peeled(_steps_without_ring(r))[0]


def longest_chain(r):
    """Any chain with the greatest possible number of names."""
    chain = []
    for layer in layers(r)[::-1]:
        chain.append([x for x in layer if not chain or (x, chain[-1]) in r][0])
    return chain[::-1]


def _chain_from(after, x):
    chain = [x]
    while chain[-1] in after:
        chain.append(after[chain[-1]])
    return chain


def few_chains(r):
    """Any smallest list of chains in which each name occurs exactly once."""
    # A chain begins at each name to which no pair leads: the more pairs, the fewer chains.
    after = {x: y for x, y in best_pairing(closed(_steps_without_ring(r)))}
    led_to = {after[x]: True for x in after}
    return [_chain_from(after, x) for x in r.sources() if x not in led_to]


def most_apart(r):
    """Any longest list of names, in order, of which no two are in one chain."""
    xs, ys = least_touch(closed(_steps_without_ring(r)))
    return [x for x in r.sources() if x not in xs and x not in ys]
