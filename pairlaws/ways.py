"""Ways of short terms: patterns of places and marks (S5.1, S5.2)."""

from pairlaws.errors import BadTerm, NotShort
from pairlaws.forms import is_flat, is_short
from pairlaws.frames import led_to
from pairlaws.terms import ends_of, is_number_below, parts_below


def _is_mark(frame, sorts, value):
    """Whether a value, which may be any value, is a mark between places of these sorts."""
    if not isinstance(value, tuple) or len(value) != 3:
        return False
    term, i, j = value
    if not is_number_below(i, len(sorts)) or not is_number_below(j, len(sorts)):
        return False
    try:
        ends = ends_of(frame, term)
    except BadTerm:
        return False
    return is_flat(term) and ends == (sorts[i], sorts[j])


def is_way(frame, value):
    """Whether a value, which may be any value, is a way over the frame."""
    if not isinstance(value, tuple) or len(value) != 2:
        return False
    sorts, marks = value
    if not isinstance(sorts, tuple) or not isinstance(marks, tuple) or len(sorts) < 2:
        return False
    return all([frame.has_sort(sort) for sort in sorts]) and all([_is_mark(frame, sorts, mark) for mark in marks])


def _renumbered(marks, numbers):
    return tuple([(term, numbers[i], numbers[j]) for term, i, j in marks])


def turned_way(way):
    """The way with places 0 and 1 exchanged."""
    sorts, marks = way
    numbers = [1, 0] + list(range(2, len(sorts)))
    return ((sorts[1], sorts[0]) + sorts[2:], _renumbered(marks, numbers))


def _way_of_cut(one, other):
    count = len(one[0])
    numbers = [0, 1] + list(range(count, count + len(other[0]) - 2))
    return (one[0] + other[0][2:], one[1] + _renumbered(other[1], numbers))


def _way_of_then(one, other):
    sorts, others = one[0], other[0]
    count = len(sorts)
    numbers = [0, 2] + list(range(3, count + 1))
    other_numbers = [2, 1] + list(range(count + 1, count + len(others) - 1))
    marks = _renumbered(one[1], numbers) + _renumbered(other[1], other_numbers)
    return ((sorts[0], others[1], sorts[1]) + sorts[2:] + others[2:], marks)


def _ways(frame, term):
    if is_flat(term):
        return [(ends_of(frame, term), ((term, 0, 1),))]
    word = term[0]
    found = [_ways(frame, part) for part in parts_below(term)]
    if word == "turned":
        return [turned_way(way) for way in found[0]]
    if word == "joined":
        return found[0] + found[1]
    if word == "cut":
        return [_way_of_cut(one, other) for one in found[0] for other in found[1]]
    return [_way_of_then(one, other) for one in found[0] for other in found[1]]


def ways(frame, term):
    """The list of the ways of a short term, which may be any value."""
    ends_of(frame, term)
    if not is_short(term):
        raise NotShort()
    return _ways(frame, term)


def made_steps(frame, sorts):
    """The made places of a way whose places have these sorts: for each the place at which it is made, and the total."""
    all_sorts = list(sorts)
    steps = []
    at = 0
    while at < len(all_sorts):
        for total in frame.totals_from(all_sorts[at]):
            steps.append((at, total))
            all_sorts.append(led_to(frame, total))
        at += 1
    return steps


def made(book, way):
    """The way with its made places."""
    frame = book.frame()
    sorts, marks = list(way[0]), list(way[1])
    for place, total in made_steps(frame, sorts):
        letter, word = total
        further = len(sorts)
        i, j = (place, further) if word == "on" else (further, place)
        marks.append((("letter", letter), i, j))
        sorts.append(led_to(frame, total))
    return (tuple(sorts), tuple(marks))
