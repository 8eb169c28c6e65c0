"""Plans run in worlds, signs of letters, and the pairs on which a pair rests (S8.2, S8.3)."""

from pairlaws.closing import walk
from pairlaws.errors import HasRest
from pairlaws.plans import check_plan
from pairlaws.residuals import between
from pairlaws.terms import ends_of, part_at, parts_below, parts_inner_first, parts_of
from pairlaws.worlds import require_thing
from pairlaws.worths import worth, worth_above


def run_plan(world, rows):
    """The list of the worths of all rows of a plan, which may be any value."""
    check_plan(world.frame(), rows)
    found = []
    for row in rows:
        found.append(worth_above(world, row, [found[number] for number in parts_below(row)]))
    return found


def row_of(world, term, x):
    """The list of the things y with (x, y) in the worth of a term; term and x may be any values."""
    return worth(world, term).row(x)


def _is_below_odd(term, path):
    """Whether the part at a path is below an odd number of rests."""
    above = [part_at(term, path[:depth])[0] for depth in range(len(path))]
    return above.count("rest") % 2 == 1


def sign_of(term, name):
    """Whether the worth of a term grows or shrinks with a letter: "none", "up", "down" or "both"."""
    odd = [_is_below_odd(term, path) for path, part in parts_of(term) if part == ("letter", name)]
    if not odd:
        return "none"
    if all(odd):
        return "down"
    return "both" if any(odd) else "up"


def _steps(names):
    """The spots of the part below a closed or walked that the steps of a walk need."""
    return [(0, names[at], names[at + 1]) for at in range(len(names) - 1)]


def _needed(word, below, x, y):
    """The list of (0 or 1, a, b), the pairs of the parts below a part, on which its pair (x, y) rests."""
    if word == "turned":
        return [(0, y, x)]
    if word == "joined":
        return [(0, x, y)] if (x, y) in below[0] else [(1, x, y)]
    if word == "cut":
        return [(0, x, y), (1, x, y)]
    if word == "then":
        z = between(below[0], below[1], x, y)[0]
        return [(0, x, z), (1, z, y)]
    if word == "closed" or (word == "walked" and x != y):
        return _steps(walk(below[0], x, y))
    return []


def _resting_on(term, worths, x, y):
    """A dict whose keys are the (letter, a, b) on which the pair (x, y) of a term rests."""
    found = {}
    met = {((), x, y): True}
    waiting = [((), x, y)]
    while waiting:
        path, a, b = waiting.pop()
        part = part_at(term, path)
        if part[0] == "letter":
            found[(part[1], a, b)] = True
        below = [worths[path + (number,)] for number in range(len(parts_below(part)))]
        for number, u, v in _needed(part[0], below, a, b):
            spot = (path + (number,), u, v)
            if spot not in met:
                met[spot] = True
                waiting.append(spot)
    return found


def _worths_of_parts(world, term):
    """A dict that maps the path of each part to its worth."""
    worths = {}
    for path, part in parts_inner_first(term):
        below = [worths[path + (number,)] for number in range(len(parts_below(part)))]
        worths[path] = worth_above(world, part, below)
    return worths


def support_of(world, term, x, y):
    """Any list of pairs of letters with which alone (x, y) is in the worth of a term, or None if it is not."""
    first, second = ends_of(world.frame(), term)
    if "rest" in [part[0] for _, part in parts_of(term)]:
        raise HasRest()
    require_thing(world, first, x)
    require_thing(world, second, y)
    worths = _worths_of_parts(world, term)
    if (x, y) not in worths[()]:
        return None
    found = _resting_on(term, worths, x, y)
    return [(letter, a, b) for letter, _, _ in world.frame().letters()
            for a, b in world.relation(letter).pairs() if (letter, a, b) in found]
