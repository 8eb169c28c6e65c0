"""Renamings of worlds, and deeds and states that maps lead to others (S10.5)."""

from pairlaws.deeds import in_order, single_deeds
from pairlaws.errors import BadImages, MixedWorlds
from pairlaws.images import back_of_map
from pairlaws.maps import WorldMap, check_images
from pairlaws.worlds import renamed


def renaming_map(world, names):
    """The map from a world to the one whose things have the names of a dict of lists; renamed raises their errors."""
    check_images(world, names)
    target = world
    for sort in world.frame().sorts():
        target = renamed(target, sort, names[sort])
    return WorldMap(world, target, names)


def _led_single(m, deed):
    word = deed[0]
    if word in ("put", "take"):
        _, letter, x, y = deed
        first, second = m.source().frame().ends(letter)
        return (word, letter, m.image(first, x), m.image(second, y))
    if word == "leave":
        _, sort, x = deed
        return (word, sort, m.image(sort, x))
    return deed


def led_deed(m, deed):
    """The deed, which may be any value, with the images of the things of the source."""
    led = [_led_single(m, single) for single in single_deeds(deed)]
    return ("all", tuple(led)) if deed[0] == "all" else led[0]


def led_state(m, state):
    """The state of the same book and views whose world is the target of a map that has an inverse."""
    book, world, views = state
    if world != m.source():
        raise MixedWorlds()
    if back_of_map(m) is None:
        raise BadImages()
    return in_order(book, m.target(), {name: term for name, term in views})
