"""Books: frames with premises, and the worlds that obey them (S4.5, S4.6)."""

from pairlaws.errors import MixedEnds, MixedFrames, NotFlat, NotKept, NotTold
from pairlaws.forms import is_flat, is_kept
from pairlaws.terms import ends_behind, is_number_below
from pairlaws.worths import worth


def _check_premise(frame, number, p, q):
    ends = ends_behind((number, 0), frame, p)
    others = ends_behind((number, 1), frame, q)
    if not is_kept(p):
        raise NotKept(number)
    if not is_flat(q):
        raise NotFlat(number)
    if ends != others:
        raise MixedEnds(number)


class Book:
    """A frame with a list of premises (p, q)."""

    def __init__(self, frame, premises):
        for number, (p, q) in enumerate(premises):
            _check_premise(frame, number, p, q)
        self._frame = frame
        self._premises = tuple([(p, q) for p, q in premises])

    def frame(self):
        return self._frame

    def premises(self):
        return list(self._premises)

    def __len__(self):
        return len(self._premises)

    def __eq__(self, other):
        return isinstance(other, Book) and self._frame == other._frame and self._premises == other._premises


def with_premise(book, p, q):
    """The book with one more premise at the end; p and q may be any values."""
    return Book(book.frame(), book.premises() + [(p, q)])


def require_number(book, number):
    """Raise NotTold for any value that is not the number of a premise."""
    if not is_number_below(number, len(book)):
        raise NotTold(number)


def without_premise(book, number):
    """The book without the premise of this number, which may be any value."""
    require_number(book, number)
    premises = book.premises()
    return Book(book.frame(), premises[:number] + premises[number + 1:])


def _faults_of_total(world, total):
    name, word = total
    first, second = world.frame().ends(name)
    r = world.relation(name)
    if word == "on":
        return [("total", name, word, x) for x in world.things(first) if not r.row(x)]
    return [("total", name, word, y) for y in world.things(second) if not r.column(y)]


def _faults_of_premise(world, number, p, q):
    return [("premise", number, x, y) for x, y in (worth(world, p) - worth(world, q)).pairs()]


def faults_of_totals(world):
    """The faults of a world for the totals of its frame, in order."""
    return [fault for total in world.frame().totals() for fault in _faults_of_total(world, total)]


def all_broken(book, world):
    """The list of all faults of a world for a book."""
    if book.frame() != world.frame():
        raise MixedFrames()
    faults = faults_of_totals(world)
    for number, (p, q) in enumerate(book.premises()):
        faults.extend(_faults_of_premise(world, number, p, q))
    return faults


def first_broken(book, world):
    """The first fault of a world for a book, or None."""
    faults = all_broken(book, world)
    return faults[0] if faults else None


def obeys(book, world):
    """Whether a world has no fault for a book."""
    return first_broken(book, world) is None
