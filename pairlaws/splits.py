"""Splits of functions and relations, matchings of classes, zigzags, pens, crosses and heights (S2.4, S2.5)."""

from pairlaws.closing import are_names, walked
from pairlaws.errors import BadSplit, UnknownName
from pairlaws.kinds import has_kind, is_function
from pairlaws.partings import require_function
from pairlaws.relations import Relation
from pairlaws.sizes import targets_had


def onto_then_apart(f):
    """The split of a function whose middle names are the targets that have a source."""
    require_function(f)
    middle = targets_had(f)
    onto = Relation(f.sources(), middle, f.pairs())
    apart = Relation(middle, f.targets(), [(y, y) for y in middle])
    return (onto, apart)


def is_split(f, value):
    """Whether a value, which may be any value, is a split of a function."""
    require_function(f)
    if not isinstance(value, tuple) or len(value) != 2:
        return False
    g, h = value
    if not isinstance(g, Relation) or not isinstance(h, Relation) or g.targets() != h.sources():
        return False
    if not is_function(g) or not is_function(h):
        return False
    return has_kind(g, "onto") and has_kind(h, "apart") and g >> h == f


def between_splits(f, one, other):
    """The relation between the middle names of two splits of a function that leads one to the other."""
    for value in (one, other):
        if not is_split(f, value):
            raise BadSplit()
    return one[0].turned() >> other[0]


def pair_split(r):
    """Two functions from words for the pairs of r: to the source of each pair, and to its target."""
    pairs = r.pairs()
    words = [f"p{number}" for number in range(len(pairs))]
    to_source = [(word, x) for word, (x, y) in zip(words, pairs)]
    to_target = [(word, y) for word, (x, y) in zip(words, pairs)]
    return (Relation(words, r.sources(), to_source), Relation(words, r.targets(), to_target))


def least_matching(r):
    """The least matching of classes that contains r."""
    return walked(r >> r.turned()) >> r


def blocks(r):
    """The blocks of r as tuples (some, others), ordered by their first sources."""
    matching = least_matching(r)
    found = []
    for x in matching.sources():
        others = matching.row(x)
        if others:
            some = matching.column(others[0])
            if some[0] == x:
                found.append((some, others))
    return found


def _require_ends(r, x, y):
    for value, names in ((x, r.sources()), (y, r.targets())):
        if value not in names:
            raise UnknownName(value)


def _zigzag_back(found_by, y):
    """The zigzag that ends at y, where found_by tells of each target its source and the target before."""
    names = []
    while y is not None:
        source, earlier = found_by[y]
        names = [source, y] + names
        y = earlier
    return names


def zigzag(r, x, y):
    """Any zigzag from x to y with the smallest possible number of names, or None."""
    _require_ends(r, x, y)
    found_by = {}
    queue = [(x, None)]
    at = 0
    while at < len(queue) and y not in found_by:
        source, earlier = queue[at]
        at += 1
        for target in r.row(source):
            if target not in found_by:
                found_by[target] = (source, earlier)
                queue.extend([(further, target) for further in r.column(target)])
    return _zigzag_back(found_by, y) if y in found_by else None


def pen(r, x, y):
    """The least pen for x and y, or None."""
    _require_ends(r, x, y)
    matching = least_matching(r)
    others = matching.row(x)
    if y in others:
        return None
    return (matching.column(others[0]) if others else [x], others)


def _are_linked(r, value, at):
    """Whether the name at this place of a zigzag and the next one, source first, form a pair."""
    pair = (value[at], value[at + 1]) if at & 1 == 0 else (value[at + 1], value[at])
    return pair in r


def judge_zigzag(r, x, y, value):
    """Whether a value, which may be any value, is a zigzag from x to y."""
    _require_ends(r, x, y)
    if not isinstance(value, (list, tuple)) or len(value) < 2 or len(value) & 1 == 1:
        return False
    if value[0] != x or value[-1] != y:
        return False
    return all([_are_linked(r, value, at) for at in range(len(value) - 1)])


def judge_pen(r, x, y, value):
    """Whether a value, which may be any value, is a pen for x and y."""
    _require_ends(r, x, y)
    if not isinstance(value, tuple) or len(value) != 2:
        return False
    some, others = value
    if not are_names(some, r.sources()) or not are_names(others, r.targets()):
        return False
    if x not in some or y in others:
        return False
    return all([(u in some) == (v in others) for u, v in r.pairs()])


def cross(r):
    """The first cross of r, or None."""
    for x in r.sources():
        apart = {u: [v for v in r.row(u) if (x, v) not in r] for u in r.sources()}
        for y in r.row(x):
            for u in r.sources():
                if apart[u] and (u, y) not in r:
                    return (x, y, u, apart[u][0])
    return None


def heights(r):
    """Any heights of r, or None if there is a cross."""
    if cross(r) is not None:
        return None
    # Without a cross, of two rows the longer one contains the other, so that their lengths decide.
    # If a target has no source, each row lacks it, and so is shorter than the list of the targets.
    of_sources = {x: len(r.row(x)) for x in r.sources()}
    of_targets = {y: min([len(r.row(x)) for x in r.column(y)], default=len(r.targets())) for y in r.targets()}
    return (of_sources, of_targets)


def _are_numbers_of(value, names):
    """Whether a value, which may be any value, is a dict from exactly the names to integers."""
    if not isinstance(value, dict) or len(value) != len(names) or not all([name in value for name in names]):
        return False
    return all([isinstance(value[name], int) and not isinstance(value[name], bool) for name in names])


def judge_heights(r, value):
    """Whether a value, which may be any value, is heights of r."""
    if not isinstance(value, tuple) or len(value) != 2:
        return False
    of_sources, of_targets = value
    if not _are_numbers_of(of_sources, r.sources()) or not _are_numbers_of(of_targets, r.targets()):
        return False
    return all([((x, y) in r) == (of_sources[x] >= of_targets[y]) for x in r.sources() for y in r.targets()])
