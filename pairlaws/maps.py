"""Maps from worlds to worlds, which lead pairs to pairs (S10.1, S10.4)."""

from pairlaws.errors import BadImages, MixedFrames, MixedWorlds, NotLed, TooMany, UnknownName
from pairlaws.imaging import all_images, first_images

_MOST_MAPS = 1000


def check_images(world, images):
    """Raise BadImages for any value that is not a dict with a list for each sort, one entry for each thing."""
    sorts = world.frame().sorts()
    if not isinstance(images, dict) or len(images) != len(sorts):
        raise BadImages()
    for sort in sorts:
        if sort not in images or not isinstance(images[sort], (list, tuple)):
            raise BadImages()
        if len(images[sort]) != len(world.things(sort)):
            raise BadImages()


def _check_led(source, target, image_of):
    for letter, first, second in source.frame().letters():
        for x, y in source.relation(letter).pairs():
            if not target.has(letter, image_of[first][x], image_of[second][y]):
                raise NotLed(letter, (x, y))


class WorldMap:
    """A world, its source, another one, its target, and for each thing of the one a thing of the other."""

    def __init__(self, source, target, images):
        _require_same_frames(source, target)
        check_images(source, images)
        sorts = source.frame().sorts()
        for sort in sorts:
            things = target.things(sort)
            for image in images[sort]:
                if image not in things:
                    raise UnknownName(image)
        image_of = {sort: {x: image for x, image in zip(source.things(sort), images[sort])} for sort in sorts}
        _check_led(source, target, image_of)
        self._source = source
        self._target = target
        self._image_of = image_of

    def source(self):
        return self._source

    def target(self):
        return self._target

    def image(self, sort, thing):
        if thing not in self._source.things(sort):
            raise UnknownName(thing)
        return self._image_of[sort][thing]

    def images(self):
        return {sort: [self.image(sort, x) for x in self._source.things(sort)] for sort in self._image_of}

    def __rshift__(self, other):
        if not isinstance(other, WorldMap):
            return NotImplemented
        if self._target != other._source:
            raise MixedWorlds()
        images = {sort: [other.image(sort, self.image(sort, x)) for x in self._source.things(sort)]
                  for sort in self._image_of}
        return WorldMap(self._source, other._target, images)

    def __eq__(self, other):
        return (isinstance(other, WorldMap) and self._source == other._source and self._target == other._target
                and self._image_of == other._image_of)


def same_map(world):
    """The map that leads each thing of a world to itself."""
    return WorldMap(world, world, {sort: world.things(sort) for sort in world.frame().sorts()})


def _require_same_frames(source, target):
    if source.frame() != target.frame():
        raise MixedFrames()


def all_maps(source, target):
    """The list of all maps from one world to another one, ascending by the places of the images."""
    _require_same_frames(source, target)
    found = all_images(source, target, _MOST_MAPS)
    if found is None:
        raise TooMany()
    return [WorldMap(source, target, images) for images in found]


def _first(source, target, exact):
    _require_same_frames(source, target)
    images = first_images(source, target, exact)
    return None if images is None else WorldMap(source, target, images)


def first_map(source, target):
    """The first of all maps from one world to another one, or None."""
    return _first(source, target, False)


def first_exact(source, target):
    """The first of all maps from one world to another one that have an inverse, or None."""
    return _first(source, target, True)
