"""Worlds over a frame: things for each sort, a relation for each letter (S4.1, S4.2)."""

from pairlaws.errors import BadImages, BadName, BadWorld, TwiceTold, UnknownName
from pairlaws.relations import Relation, is_word


def check_keys(names, told):
    """Raise BadWorld for the first key of a dict, in ascending order, that is not one of the names."""
    for key in sorted([str(key) for key in told]):
        if key not in names:
            raise BadWorld(key)


def _check_told(names, told):
    for name in names:
        if name not in told:
            raise BadWorld(name)
    check_keys(names, told)


def _check_things(things):
    met = {}
    for name in things:
        if not is_word(name):
            raise BadName(name)
        if name in met:
            raise TwiceTold(name)
        met[name] = True


class World:
    """A list of things for each sort of a frame, and a relation for each of its letters."""

    def __init__(self, frame, things, pairs):
        _check_told(frame.sorts(), things)
        _check_told([letter[0] for letter in frame.letters()], pairs)
        for sort in frame.sorts():
            _check_things(things[sort])
        self._frame = frame
        self._things = {sort: tuple(things[sort]) for sort in frame.sorts()}
        self._relations = {name: Relation(self._things[first], self._things[second], pairs[name])
                           for name, first, second in frame.letters()}

    def frame(self):
        return self._frame

    def things(self, sort):
        if not self._frame.has_sort(sort):
            raise UnknownName(sort)
        return list(self._things[sort])

    def relation(self, letter):
        if not self._frame.has_letter(letter):
            raise UnknownName(letter)
        return self._relations[letter]

    def has(self, letter, x, y):
        return (x, y) in self.relation(letter)

    def total(self):
        return sum([len(self._things[sort]) for sort in self._things])

    def told(self):
        things = {sort: list(self._things[sort]) for sort in self._things}
        pairs = {name: self._relations[name].pairs() for name in self._relations}
        return (things, pairs)

    def __eq__(self, other):
        return (isinstance(other, World) and self._frame == other._frame
                and self._things == other._things and self._relations == other._relations)


def require_thing(world, sort, x):
    """Raise UnknownName for any value that is not a thing of the sort."""
    if x not in world.things(sort):
        raise UnknownName(x)


def _with_other_pairs(world, letter, x, y, is_in):
    """The world in which the letter has the pair, or does not have it."""
    first, second = world.frame().ends(letter)
    require_thing(world, first, x)
    require_thing(world, second, y)
    things, pairs = world.told()
    others = [pair for pair in pairs[letter] if pair != (x, y)]
    pairs[letter] = others + [(x, y)] if is_in else others
    return World(world.frame(), things, pairs)


def with_pair(world, letter, x, y):
    """The world in which the letter has the pair."""
    return _with_other_pairs(world, letter, x, y, True)


def without_pair(world, letter, x, y):
    """The world in which the letter does not have the pair."""
    return _with_other_pairs(world, letter, x, y, False)


def with_thing(world, sort, x):
    """The world with one more thing, the last of its sort; World raises the errors of its name."""
    listed = world.things(sort)
    things, pairs = world.told()
    things[sort] = listed + [x]
    return World(world.frame(), things, pairs)


def _with_other_things(world, sort, names):
    """The world whose things of a sort have other names, by a dict; things that are not in it are left out."""
    things, pairs = world.told()
    things[sort] = [names[x] for x in things[sort] if x in names]
    for letter, first, second in world.frame().letters():
        if first == sort:
            pairs[letter] = [(names[x], y) for x, y in pairs[letter] if x in names]
        if second == sort:
            pairs[letter] = [(x, names[y]) for x, y in pairs[letter] if y in names]
    return World(world.frame(), things, pairs)


def without_thing(world, sort, x):
    """The world without the thing and without every pair that contains it."""
    require_thing(world, sort, x)
    return _with_other_things(world, sort, {name: name for name in world.things(sort) if name != x})


def renamed(world, sort, names):
    """The world in which the things of a sort have these names, in order; World raises the errors of the names."""
    things = world.things(sort)
    if len(names) != len(things):
        raise BadImages()
    return _with_other_things(world, sort, {x: name for x, name in zip(things, names)})
