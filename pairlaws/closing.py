"""Transitive closures, walks, shut sets and knots of square relations (S2.1)."""

from pairlaws.errors import NotSquare, UnknownName
from pairlaws.relations import same_pairs


def is_square(r):
    return r.sources() == r.targets()


def require_square(r):
    if not is_square(r):
        raise NotSquare()


def _require_names(r, x, y):
    require_square(r)
    names = r.sources()
    for value in (x, y):
        if value not in names:
            raise UnknownName(value)


def closed(r):
    """The least s with r <= s and s >> s <= s."""
    require_square(r)
    made = r
    while not (made >> made) <= made:
        made = made | (made >> made)
    return made


def walked(r):
    """The least s with r <= s and s >> s <= s that contains (x, x) for each name x."""
    return closed(r) | same_pairs(r.sources())


def _traced(before, x, y):
    names = [y]
    name = before[y]
    while name != x:
        names.append(name)
        name = before[name]
    return [x] + names[::-1]


def walk(r, x, y):
    """Any walk from x to y with the smallest possible number of names, or None."""
    _require_names(r, x, y)
    before = {}
    queue = [x]
    at = 0
    while at < len(queue) and y not in before:
        for z in r.row(queue[at]):
            if z not in before:
                before[z] = queue[at]
                queue.append(z)
        at += 1
    return _traced(before, x, y) if y in before else None


def shut(r, x, y):
    """The least shut set for x and y, in the order of r, or None."""
    _require_names(r, x, y)
    names = closed(r).row(x)
    return None if y in names else names


def judge_walk(r, x, y, value):
    """Whether a value, which may be any value, is a walk from x to y."""
    _require_names(r, x, y)
    if not isinstance(value, (list, tuple)) or len(value) < 2:
        return False
    if value[0] != x or value[-1] != y:
        return False
    return all([(value[at], value[at + 1]) in r for at in range(len(value) - 1)])


def are_names(value, names):
    """Whether a value, which may be any value, is a list of some of the names without duplicates."""
    if not isinstance(value, (list, tuple)) or not all([entry in names for entry in value]):
        return False
    return len(set(value)) == len(value)


def judge_shut(r, x, y, value):
    """Whether a value, which may be any value, is a shut set for x and y."""
    _require_names(r, x, y)
    if not are_names(value, r.sources()) or y in value:
        return False
    needed = r.row(x) + [further for z in value for further in r.row(z)]
    return all([name in value for name in needed])


def knots(r):
    """The list of the knots, ordered by their first names."""
    reach = walked(r)
    return first_rows(reach & reach.turned())


def first_rows(alike):
    """The different rows of a parting: those of the names that are the first in their own rows."""
    rows = [alike.row(x) for x in alike.sources()]
    return [row for x, row in zip(alike.sources(), rows) if row[0] == x]
