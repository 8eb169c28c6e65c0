"""Parts, products, sums and foldings of worlds (S4.7 to S4.9)."""

from pairlaws.books import faults_of_totals
from pairlaws.errors import MixedFrames, NotTold, NotTotal, TwiceTold, UnknownName
from pairlaws.frames import led_to
from pairlaws.worlds import World, check_keys


def _check_listed(names, listed):
    """Raise UnknownName or TwiceTold for the first value of a list that is none of the names, or stands there again."""
    for at, value in enumerate(listed):
        if value not in names:
            raise UnknownName(value)
        if value in listed[:at]:
            raise TwiceTold(value)


def _check_part(world, things):
    sorts = world.frame().sorts()
    check_keys(sorts, things)
    for sort in sorts:
        _check_listed(world.things(sort), things.get(sort, []))


def _world_of_pairs(world, things, led):
    """The world with these things whose letters have the pairs of a world, led by a dict of dicts of things.

    A pair is left out if one of its things is not led.
    """
    pairs = {}
    for letter, first, second in world.frame().letters():
        pairs[letter] = [(led[first][x], led[second][y]) for x, y in world.relation(letter).pairs()
                         if x in led[first] and y in led[second]]
    return World(world.frame(), things, pairs)


def part_of(world, things):
    """The part of a world that has exactly these things."""
    _check_part(world, things)
    led = {sort: {x: x for x in things.get(sort, [])} for sort in world.frame().sorts()}
    kept = {sort: [x for x in world.things(sort) if x in led[sort]] for sort in led}
    return _world_of_pairs(world, kept, led)


def is_whole(world, things):
    """Whether the part that has exactly these things obeys the totals of the frame."""
    return not faults_of_totals(part_of(world, things))


def partner_of(world, total, x):
    """The first partner of a thing by a total."""
    name, word = total
    r = world.relation(name)
    partners = r.row(x) if word == "on" else r.column(x)
    if not partners:
        raise NotTotal(name, word, x)
    return partners[0]


def part_of_spots(world, spots):
    """The part of a world that has the things of a list of (sort, thing)."""
    sorts = world.frame().sorts()
    return part_of(world, {sort: [x for x in world.things(sort) if (sort, x) in spots] for sort in sorts})


def whole_part(world, things):
    """The least part that has these things and the first partners of all its things by all totals."""
    _check_part(world, things)
    frame = world.frame()
    spots = [(sort, x) for sort in frame.sorts() for x in things.get(sort, [])]
    at = 0
    while at < len(spots):
        sort, x = spots[at]
        for total in frame.totals_from(sort):
            spot = (led_to(frame, total), partner_of(world, total, x))
            if spot not in spots:
                spots.append(spot)
        at += 1
    return part_of_spots(world, spots)


def _require_same_frames(world, other):
    if world.frame() != other.frame():
        raise MixedFrames()


def _numbered(mark, names):
    return [f"{mark}{number}" for number in range(len(names))]


def product(world, other):
    """The product of two worlds, and what its things are: tuples (x, y)."""
    _require_same_frames(world, other)
    frame = world.frame()
    names = {sort: [(x, y) for x in world.things(sort) for y in other.things(sort)] for sort in frame.sorts()}
    things = {sort: _numbered("p", names[sort]) for sort in names}
    word_of = {sort: {both: word for both, word in zip(names[sort], things[sort])} for sort in names}
    pairs = {}
    for letter, first, second in frame.letters():
        others = other.relation(letter).pairs()
        pairs[letter] = [(word_of[first][x, u], word_of[second][y, v])
                         for x, y in world.relation(letter).pairs() for u, v in others]
    return (World(frame, things, pairs), names)


def summed(world, other):
    """The sum of two worlds, and what its things are: tuples (0, x) or (1, y)."""
    _require_same_frames(world, other)
    frame = world.frame()
    both = (world, other)
    names = {sort: [(side, x) for side in (0, 1) for x in both[side].things(sort)] for sort in frame.sorts()}
    things = {sort: _numbered("s", names[sort]) for sort in names}
    word_of = {sort: {spot: word for spot, word in zip(names[sort], things[sort])} for sort in names}
    pairs = {}
    for letter, first, second in frame.letters():
        pairs[letter] = [(word_of[first][side, x], word_of[second][side, y])
                         for side in (0, 1) for x, y in both[side].relation(letter).pairs()]
    return (World(frame, things, pairs), names)


def _first_members(names, lists):
    """A dict that maps each thing to the first thing of its class in the order of the names."""
    _check_listed(names, [value for members in lists for value in members])
    first_of = {}
    for members in lists:
        in_order = [x for x in names if x in members]
        for x in in_order:
            first_of[x] = in_order[0]
    for x in names:
        if x not in first_of:
            raise NotTold(x)
    return first_of


def folded(world, classes):
    """The world with one thing for each class."""
    sorts = world.frame().sorts()
    check_keys(sorts, classes)
    led = {}
    for sort in sorts:
        names = world.things(sort)
        led[sort] = _first_members(names, classes.get(sort, [[x] for x in names]))
    things = {sort: [x for x in world.things(sort) if led[sort][x] == x] for sort in sorts}
    return _world_of_pairs(world, things, led)
