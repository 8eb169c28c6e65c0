"""Leads of ways into worlds (S5.3, S5.4)."""

from pairlaws.errors import MixedFrames
from pairlaws.relations import Relation
from pairlaws.terms import ends_of
from pairlaws.ways import made_steps, ways
from pairlaws.worldworks import part_of_spots, partner_of
from pairlaws.frames import led_to
from pairlaws.worlds import require_thing
from pairlaws.worths import worth


def _are_kept(checks, lead):
    """Whether a lead keeps each of the marks, given as (worth, i, j)."""
    return all([(lead[i], lead[j]) in r for r, i, j in checks])


def _checks(way, world):
    return [(worth(world, term), i, j) for term, i, j in way[1]]


def is_lead(way, world, value):
    """Whether a value, which may be any value, is a lead of a way into a world."""
    sorts = way[0]
    if not isinstance(value, tuple) or len(value) != len(sorts):
        return False
    if not all([x in world.things(sort) for x, sort in zip(value, sorts)]):
        return False
    return _are_kept(_checks(way, world), value)


def _leads_among(way, world, choices):
    """The list of all leads whose things are taken from one list for each place, in the order of these lists."""
    checks = _checks(way, world)
    found = [()]
    for place, names in enumerate(choices):
        # A mark is looked at as soon as the later one of its places has a thing.
        now = [check for check in checks if place in check[1:] and check[1] <= place and check[2] <= place]
        longer = [lead + (x,) for lead in found for x in names]
        found = [lead for lead in longer if _are_kept(now, lead)]
    return found


def leads(way, world):
    """The list of all leads of a way into a world, ordered by the thing at place 0, then at place 1, and so on."""
    return _leads_among(way, world, [world.things(sort) for sort in way[0]])


def first_lead(way, world, x, y):
    """The first lead that has x at place 0 and y at place 1, or None; x and y may be any values."""
    sorts = way[0]
    require_thing(world, sorts[0], x)
    require_thing(world, sorts[1], y)
    found = _leads_among(way, world, [[x], [y]] + [world.things(sort) for sort in sorts[2:]])
    return found[0] if found else None


def worth_by_ways(world, term):
    """The relation of the pairs at places 0 and 1 of all leads of all ways of a short term, which may be any value."""
    frame = world.frame()
    found = [lead for way in ways(frame, term) for lead in leads(way, world)]
    first, second = ends_of(frame, term)
    return Relation(world.things(first), world.things(second), [(lead[0], lead[1]) for lead in found])


def chosen(book, way, world, lead):
    """The things of a lead, followed by the first partners that the made places of the way need."""
    if book.frame() != world.frame():
        raise MixedFrames()
    things = list(lead)
    for place, total in made_steps(book.frame(), way[0]):
        things.append(partner_of(world, total, things[place]))
    return tuple(things)


def lead_world(book, way, world, lead):
    """The part of the world that has exactly the things that chosen tells."""
    things = chosen(book, way, world, lead)
    frame = book.frame()
    sorts = list(way[0]) + [led_to(frame, total) for _, total in made_steps(frame, way[0])]
    return part_of_spots(world, list(zip(sorts, things)))
