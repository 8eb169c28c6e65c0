"""The worths of terms in worlds, and reasons for and against their pairs (S4.3, S4.4)."""

from pairlaws.closing import closed, judge_shut, judge_walk, shut, walk, walked
from pairlaws.relations import every_pair, no_pair, other_pairs, same_pairs
from pairlaws.residuals import between
from pairlaws.terms import ends_of, parts_below, sorts_told
from pairlaws.worlds import require_thing


def _worth_of_sorts(world, term):
    word = term[0]
    sorts = sorts_told(term)
    first, second = world.things(sorts[0]), world.things(sorts[-1])
    if word == "same":
        return same_pairs(first)
    if word == "other":
        return other_pairs(first)
    return every_pair(first, second) if word == "all" else no_pair(first, second)


def _worth_of_one(word, r):
    if word == "rest":
        return ~r
    if word == "turned":
        return r.turned()
    return closed(r) if word == "closed" else walked(r)


def _worth_of_two(word, r, s):
    if word == "joined":
        return r | s
    if word == "cut":
        return r & s
    return r >> s


def worth_above(world, part, below):
    """The worth of a part whose own parts have these worths."""
    if part[0] == "letter":
        return world.relation(part[1])
    if len(below) == 2:
        return _worth_of_two(part[0], below[0], below[1])
    if len(below) == 1:
        return _worth_of_one(part[0], below[0])
    return _worth_of_sorts(world, part)


def _worth(world, term):
    return worth_above(world, term, [_worth(world, part) for part in parts_below(term)])


def worth(world, term):
    """The worth of a term, which may be any value, as a relation."""
    ends_of(world.frame(), term)
    return _worth(world, term)


def holds_at(world, term, x, y):
    """Whether (x, y) is in the worth of a term; term, x and y may be any values."""
    first, second = ends_of(world.frame(), term)
    require_thing(world, first, x)
    require_thing(world, second, y)
    return (x, y) in _worth(world, term)


def _shut_names(word, r, x, y):
    """The names of a reason against (x, y): all that x reaches, in the order of the sort."""
    return walked(r).row(x) if word == "walked" else shut(r, x, y)


def _closing_reason(word, held, r, x, y):
    if not held:
        return ("shut", tuple(_shut_names(word, r, x, y)))
    if word == "walked" and x == y:
        return ("walk", (x,))
    return ("walk", tuple(walk(r, x, y)))


def reason(world, term, x, y):
    """Any reason why (x, y) is in the worth of a term, or is not."""
    held = holds_at(world, term, x, y)
    word = term[0]
    below = [_worth(world, part) for part in parts_below(term)]
    if not below:
        return ("plain",)
    if word in ("rest", "turned"):
        return ("look",)
    if word in ("closed", "walked"):
        return _closing_reason(word, held, below[0], x, y)
    if word == "then":
        return ("through", between(below[0], below[1], x, y)[0]) if held else ("nowhere",)
    if _needs_both(word, held):
        return ("both",)
    return ("left",) if ((x, y) in below[0]) == held else ("right",)


def _needs_both(word, held):
    """Whether a pair is in a cut, or is not in a joined: then both parts are needed to tell why."""
    return held == (word == "cut")


def _judge_side(word, held, below, pair, value):
    if _needs_both(word, held):
        return value == ("both",)
    for side, r in zip(("left", "right"), below):
        if value == (side,):
            return (pair in r) == held
    return False


def _judge_middle(held, below, pair, value):
    if not held:
        return value == ("nowhere",)
    if not isinstance(value, tuple) or len(value) != 2 or value[0] != "through":
        return False
    return value[1] in between(below[0], below[1], pair[0], pair[1])


def _judge_walk_names(word, r, x, y, names):
    if word == "walked" and x == y and names == (x,):
        return True
    return judge_walk(r, x, y, names)


def _judge_shut_names(word, r, x, y, names):
    if list(names) != [name for name in r.sources() if name in names]:
        return False
    if word == "closed":
        return judge_shut(r, x, y, names)
    reached = [further for name in names for further in r.row(name)]
    return x in names and y not in names and all([name in names for name in reached])


def _judge_closing(word, held, r, pair, value):
    if not isinstance(value, tuple) or len(value) != 2 or not isinstance(value[1], tuple):
        return False
    if value[0] != ("walk" if held else "shut"):
        return False
    judged = _judge_walk_names if held else _judge_shut_names
    return judged(word, r, pair[0], pair[1], value[1])


def judge_reason(world, term, x, y, value):
    """Whether a value, which may be any value, is a reason for (x, y)."""
    held = holds_at(world, term, x, y)
    word = term[0]
    below = [_worth(world, part) for part in parts_below(term)]
    if not below:
        return value == ("plain",)
    if word in ("rest", "turned"):
        return value == ("look",)
    if word in ("closed", "walked"):
        return _judge_closing(word, held, below[0], (x, y), value)
    if word == "then":
        return _judge_middle(held, below, (x, y), value)
    return _judge_side(word, held, below, (x, y), value)
