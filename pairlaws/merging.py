"""Two states that come from one elder state, merged key by key (S9.7)."""

from pairlaws.books import Book
from pairlaws.deeds import in_order
from pairlaws.errors import Clash, MixedFrames
from pairlaws.forms import without_duplicates
from pairlaws.worlds import World


def _require_same_frames(elder, one, other):
    frame = elder[0].frame()
    if one[0].frame() != frame or other[0].frame() != frame:
        raise MixedFrames()


def _chosen(elder, one, other):
    """What the merged state has at a key where the three states have these values, if there is no clash."""
    return other if one == elder else one


def _chosen_of(lists):
    """The entries that the merged state has, if each of the three states has one of these lists of entries."""
    elder, one, other = lists
    entries = without_duplicates(elder + one + other)
    return [entry for entry in entries if _chosen(entry in elder, entry in one, entry in other)]


def _chosen_things(states):
    sorts = states[0][0].frame().sorts()
    return {sort: _chosen_of([world.things(sort) for _, world, _ in states]) for sort in sorts}


def _chosen_pairs(states):
    letters = states[0][0].frame().letters()
    return {name: _chosen_of([world.relation(name).pairs() for _, world, _ in states]) for name, _, _ in letters}


def _views_told(states):
    """For each name of a view of the three states the list of its three terms, where None stands for no view."""
    told = [{name: term for name, term in views} for _, _, views in states]
    names = {name: True for views in told for name in views}
    return {name: [views.get(name) for views in told] for name in sorted([str(name) for name in names])}


def _things_met(frame, pairs, sort):
    """The things of a sort that pairs of letters contain."""
    met = {}
    for name, first, second in frame.letters():
        for x, y in pairs[name]:
            if first == sort:
                met[x] = True
            if second == sort:
                met[y] = True
    return sorted([str(x) for x in met])


def _clashing_things(states):
    frame = states[0][0].frame()
    things, pairs = _chosen_things(states), _chosen_pairs(states)
    return [("thing", sort, x) for sort in frame.sorts() for x in _things_met(frame, pairs, sort)
            if x not in things[sort]]


def _clashing_views(states):
    told = _views_told(states)
    spots = []
    for name in told:
        elder, one, other = told[name]
        if one != other and one != elder and other != elder:
            spots.append(("view", name))
    return spots


def clashes(elder, one, other):
    """The list of the spots at which two states that come from an elder one cannot be merged."""
    _require_same_frames(elder, one, other)
    states = [elder, one, other]
    return _clashing_things(states) + _clashing_views(states)


def merged(elder, one, other):
    """The state that two states, which come from an elder one, make together."""
    spots = clashes(elder, one, other)
    if spots:
        raise Clash(spots)
    states = [elder, one, other]
    frame = elder[0].frame()
    book = Book(frame, _chosen_of([told.premises() for told, _, _ in states]))
    world = World(frame, _chosen_things(states), _chosen_pairs(states))
    told = _views_told(states)
    terms = {name: _chosen(told[name][0], told[name][1], told[name][2]) for name in told}
    return in_order(book, world, {name: terms[name] for name in terms if terms[name] is not None})
