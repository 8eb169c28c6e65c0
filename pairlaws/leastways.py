"""Plain ways of plain terms, their worlds, and leads of plain ways into one another (S5.5, S5.6)."""

from pairlaws.errors import MixedEnds, NotPlain
from pairlaws.forms import is_plain, without_duplicates
from pairlaws.terms import ends_of, ends_of_both, is_number_below, parts_below
from pairlaws.worlds import World


def _numbered(way, class_of):
    """The plain way whose places are the classes of the places of another one: first, last, then the others."""
    sorts, marks, first, last = way
    order = without_duplicates([class_of[first], class_of[last]] + class_of)
    number_of = {place: number for number, place in enumerate(order)}
    led = [(letter, number_of[class_of[i]], number_of[class_of[j]]) for letter, i, j in marks]
    return (tuple([sorts[place] for place in order]), tuple(without_duplicates(led)), 0, number_of[class_of[last]])


def _turned(way):
    sorts, marks, first, last = way
    return _numbered((sorts, marks, last, first), list(range(len(sorts))))


def _one_class(class_of, i, j):
    """The classes of places after those of i and j have become one."""
    kept, lost = class_of[i], class_of[j]
    return [kept if place == lost else place for place in class_of]


def _glued(word, one, other):
    """The plain way of a cut or a then of two terms with these plain ways."""
    shift = len(one[0])
    sorts = one[0] + other[0]
    marks = one[1] + tuple([(letter, i + shift, j + shift) for letter, i, j in other[1]])
    other_first, other_last = other[2] + shift, other[3] + shift
    class_of = list(range(len(sorts)))
    if word == "then":
        class_of = _one_class(class_of, one[3], other_first)
        return _numbered((sorts, marks, one[2], other_last), class_of)
    class_of = _one_class(_one_class(class_of, one[2], other_first), one[3], other_last)
    return _numbered((sorts, marks, one[2], one[3]), class_of)


def _plain_ways_of_leaf(frame, term):
    word = term[0]
    first, second = ends_of(frame, term)
    if word == "letter":
        return [((first, second), ((term[1], 0, 1),), 0, 1)]
    if word == "same":
        return [((first,), (), 0, 0)]
    return [((first, second), (), 0, 1)] if word == "all" else []


def _plain_ways(frame, term):
    found = [_plain_ways(frame, part) for part in parts_below(term)]
    if not found:
        return _plain_ways_of_leaf(frame, term)
    if term[0] == "joined":
        return found[0] + found[1]
    if term[0] == "turned":
        return [_turned(way) for way in found[0]]
    return [_glued(term[0], one, other) for one in found[0] for other in found[1]]


def plain_ways(frame, term):
    """The list of the plain ways of a plain term, which may be any value."""
    ends_of(frame, term)
    if not is_plain(term):
        raise NotPlain()
    return _plain_ways(frame, term)


def way_world(frame, way):
    """The world of a plain way: place i is the thing named p and i."""
    sorts, marks = way[0], way[1]
    things = {sort: [f"p{place}" for place, found in enumerate(sorts) if found == sort] for sort in frame.sorts()}
    pairs = {letter[0]: [(f"p{i}", f"p{j}") for name, i, j in marks if name == letter[0]] for letter in frame.letters()}
    return World(frame, things, pairs)


def _may_lead(way, other, place, image):
    """Whether a place may be led to this place of another plain way, as far as sorts, first and last tell."""
    if way[0][place] != other[0][image]:
        return False
    if place == way[2] and image != other[2]:
        return False
    return place != way[3] or image == other[3]


def _are_led(marks, other, lead):
    return all([(letter, lead[i], lead[j]) in other[1] for letter, i, j in marks])


def is_lead_into(way, other, value):
    """Whether a value, which may be any value, is a lead of a plain way into another one."""
    if not isinstance(value, tuple) or len(value) != len(way[0]):
        return False
    if not all([is_number_below(image, len(other[0])) for image in value]):
        return False
    if not all([_may_lead(way, other, place, image) for place, image in enumerate(value)]):
        return False
    return _are_led(way[1], other, value)


def _leads_into(way, other):
    """The list of all leads of a plain way into another one, in ascending order."""
    found = [()]
    for place in range(len(way[0])):
        images = [image for image in range(len(other[0])) if _may_lead(way, other, place, image)]
        # A mark is looked at as soon as the later one of its places has an image.
        now = [mark for mark in way[1] if place in mark[1:] and mark[1] <= place and mark[2] <= place]
        longer = [lead + (image,) for lead in found for image in images]
        found = [lead for lead in longer if _are_led(now, other, lead)]
    return found


def lead_into(way, other):
    """Any lead of a plain way into another one, or None."""
    found = _leads_into(way, other)
    return found[0] if found else None


def _part_of_way(way, places):
    """The plain way of some ascending places of a plain way, first and last among them."""
    sorts, marks, first, last = way
    number_of = {place: number for number, place in enumerate(places)}
    kept = [(letter, number_of[i], number_of[j]) for letter, i, j in marks if i in number_of and j in number_of]
    return (tuple([sorts[place] for place in places]), tuple(kept), number_of[first], number_of[last])


def least_way(way):
    """A lead of a plain way into itself with as few different places as possible, and the plain way of these."""
    best = tuple(range(len(way[0])))
    for lead in _leads_into(way, way):
        if len(set(lead)) < len(set(best)):
            best = lead
    return (best, _part_of_way(way, [place for place in range(len(way[0])) if place in best]))


def alike_ways(way, other):
    """Any lead of a plain way into another one that has each place and each mark of it exactly once, or None."""
    if len(way[0]) != len(other[0]) or len(way[1]) != len(other[1]):
        return None
    # Different marks are led to different marks, since no two places are led to one.
    for lead in _leads_into(way, other):
        if len(set(lead)) == len(lead):
            return lead
    return None


def _first_lead_of(others, way):
    """The number of the first of some plain ways that has a lead into a plain way, with this lead, or None."""
    for number, other in enumerate(others):
        lead = lead_into(other, way)
        if lead is not None:
            return (number, lead)
    return None


def plain_leads(frame, claim):
    """For each plain way of s the least number of a plain way of t that has a lead into it, with this lead, or None."""
    ends, others = ends_of_both(frame, claim)
    if ends != others:
        raise MixedEnds(0)
    found = [plain_ways(frame, term) for term in claim]
    return [_first_lead_of(found[1], way) for way in found[0]]
