"""What the tests of part 10 share: maps, and all maps found one by one."""

import itertools

from pairlaws.frames import Frame
from pairlaws.maps import WorldMap, all_maps
from pairlaws.worlds import World
from tests.termsupport import FRAME, chance_world

SQUARE = Frame(["a"], [("r", "a", "a")], [])
BARE = Frame(["b", "a"], [], [])


def square(names, *pairs):
    """A world of one letter; a pair is given by its two names in one string."""
    return World(SQUARE, {"a": list(names)}, {"r": [tuple(pair) for pair in pairs]})


def empty(frame):
    return World(frame, {sort: [] for sort in frame.sorts()}, {name: [] for name, _, _ in frame.letters()})


def images_by_trial(source, target):
    """The images of all maps, ascending, each choice of images tried by itself."""
    frame = source.frame()
    sorts = frame.sorts()
    choices = [list(itertools.product(target.things(sort), repeat=len(source.things(sort)))) for sort in sorts]
    found = []
    for chosen in itertools.product(*choices):
        led = {sort: dict(zip(source.things(sort), images)) for sort, images in zip(sorts, chosen)}
        if all([target.has(name, led[first][x], led[second][y]) for name, first, second in frame.letters()
                for x, y in source.relation(name).pairs()]):
            found.append({sort: list(images) for sort, images in zip(sorts, chosen)})
    return found


def pairs_of_images(m, a, b, pairs):
    return [(m.image(a, x), m.image(b, y)) for x, y in pairs]


def chance_maps(chance, count, frame=FRAME):
    """Some maps between small worlds; the target is often a world with more pairs than the images of the source have."""
    found = []
    while len(found) < count:
        source, target = chance_world(chance, frame), chance_world(chance, frame, ("m3", "m1", "m2"))
        if chance.random() < 0.7:
            target = grown(chance, source, target)
        if target is None:
            continue
        maps = all_maps(source, target) if source.total() < 6 else []
        if maps:
            found.append(chance.choice(maps))
    return found


def grown(chance, source, target):
    """The target with the pairs that some images of the source need; None if a sort has no images."""
    frame = source.frame()
    things, pairs = target.told()
    if any([source.things(sort) and not things[sort] for sort in things]):
        return None
    led = {sort: {x: chance.choice(things[sort]) for x in source.things(sort)} for sort in things}
    for name, first, second in frame.letters():
        kept = pairs[name] if chance.random() < 0.4 else []
        pairs[name] = kept + [(led[first][x], led[second][y]) for x, y in source.relation(name).pairs()]
    return World(frame, things, pairs)


def renamed_map(world, names):
    """A map that has an inverse: each thing gets another name, and the things another order."""
    things, pairs = world.told()
    led = {sort: dict(zip(things[sort], names[sort])) for sort in things}
    made = {name: [(led[first][x], led[second][y]) for x, y in pairs[name]] for name, first, second in world.frame().letters()}
    target = World(world.frame(), {sort: names[sort][::-1] for sort in things}, made)
    return WorldMap(world, target, names)
