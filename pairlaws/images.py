"""What maps do with relations and worths, kinds of maps, and the three steps of a map (S10.2, S10.3)."""

from pairlaws.errors import BadSteps, MixedNames, UnknownName
from pairlaws.maps import WorldMap, same_map
from pairlaws.partings import kernel
from pairlaws.relations import Relation
from pairlaws.terms import ends_of
from pairlaws.worlds import World
from pairlaws.worldworks import part_of
from pairlaws.worths import worth


def _check_between(world, a, b, r):
    """Raise errors unless a relation leads from the things of one sort to those of another one, any values."""
    for sort in (a, b):
        if not world.frame().has_sort(sort):
            raise UnknownName(sort)
    if r.sources() != world.things(a) or r.targets() != world.things(b):
        raise MixedNames()


def led_relation(m, a, b, r):
    """The images of the pairs of a relation between two sorts of the source."""
    _check_between(m.source(), a, b, r)
    target = m.target()
    return Relation(target.things(a), target.things(b), [(m.image(a, x), m.image(b, y)) for x, y in r.pairs()])


def fetched_relation(m, a, b, s):
    """The pairs of the source whose images are pairs of a relation between two sorts of the target."""
    _check_between(m.target(), a, b, s)
    some, others = m.source().things(a), m.source().things(b)
    return Relation(some, others, [(x, y) for x in some for y in others if (m.image(a, x), m.image(b, y)) in s])


def _worths(m, term):
    """The ends of a term, its worth in the source, and the pairs whose images are in its worth in the target."""
    r = worth(m.source(), term)
    first, second = ends_of(m.source().frame(), term)
    return (r, fetched_relation(m, first, second, worth(m.target(), term)))


def _first_pair(r):
    pairs = r.pairs()
    return pairs[0] if pairs else None


def first_unkept(m, term):
    """The first pair of a term, which may be any value, in the source whose images are no pair of it, or None."""
    r, fetched = _worths(m, term)
    return _first_pair(r - fetched)


def first_gained(m, term):
    """The first pair that is none of a term, which may be any value, in the source while its images are, or None."""
    r, fetched = _worths(m, term)
    return _first_pair(fetched - r)


def is_apart_map(m):
    """Whether no two things of a sort have the same image."""
    images = m.images()
    return all([len(set(images[sort])) == len(images[sort]) for sort in images])


def is_onto_map(m):
    """Whether each thing of the target is an image."""
    images = m.images()
    return all([x in images[sort] for sort in images for x in m.target().things(sort)])


def is_fold(m):
    """Whether each thing of the target is an image, and each pair of a letter there the image of a pair."""
    letters = m.source().frame().letters()
    return is_onto_map(m) and all([led_relation(m, a, b, m.source().relation(name)) == m.target().relation(name)
                                   for name, a, b in letters])


def is_embedding(m):
    """Whether no two things have the same image, and only pairs of a letter are led to pairs of it."""
    letters = m.source().frame().letters()
    return is_apart_map(m) and all([fetched_relation(m, a, b, m.target().relation(name)) == m.source().relation(name)
                                    for name, a, b in letters])


def _map_behind(m, n):
    """The map that leads the image of each thing by m, by which all things are images, to its image by n."""
    images = {}
    for sort in m.source().frame().sorts():
        led = {m.image(sort, x): n.image(sort, x) for x in m.source().things(sort)}
        images[sort] = [led[y] for y in m.target().things(sort)]
    return WorldMap(m.target(), n.target(), images)


def back_of_map(m):
    """The inverse of a map, or None."""
    if not is_fold(m) or not is_embedding(m):
        return None
    return _map_behind(m, same_map(m.source()))


def kernel_of_map(m, sort):
    """The parting of the things of a sort, which may be any value, by their images."""
    things = m.source().things(sort)
    return kernel(Relation(things, m.target().things(sort), [(x, m.image(sort, x)) for x in things]))


def three_steps(m):
    """The three steps of a map in which the things of the worlds between are its images."""
    source, target, images = m.source(), m.target(), m.images()
    frame = source.frame()
    things = {sort: [x for x in target.things(sort) if x in images[sort]] for sort in images}
    pairs = {name: led_relation(m, a, b, source.relation(name)).pairs() for name, a, b in frame.letters()}
    folded_world = World(frame, things, pairs)
    part = part_of(target, things)
    return (WorldMap(source, folded_world, images), WorldMap(folded_world, part, things),
            WorldMap(part, target, things))


def is_three_steps(m, value):
    """Whether a value, which may be any value, is three steps of a map."""
    if not isinstance(value, tuple) or len(value) != 3 or not all([isinstance(step, WorldMap) for step in value]):
        return False
    fold, turn, embedding = value
    if fold.target() != turn.source() or turn.target() != embedding.source():
        return False
    if not is_fold(fold) or not is_apart_map(turn) or not is_onto_map(turn) or not is_embedding(embedding):
        return False
    return fold >> turn >> embedding == m


def steps_between(m, one, other):
    """The two maps that lead the worlds between of three steps of m to those of other three steps; any values."""
    if not is_three_steps(m, one) or not is_three_steps(m, other):
        raise BadSteps()
    p = _map_behind(one[0], other[0])
    return (p, _map_behind(one[1], p >> other[1]))
