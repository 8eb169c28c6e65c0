"""Premises that hold by other premises (S7.1, S7.2)."""

from pairlaws.books import Book, require_number, without_premise
from pairlaws.deciding import holds
from pairlaws.errors import MixedFrames, NotShort
from pairlaws.forms import is_short
from pairlaws.terms import is_number_below


def short_premises(book):
    """The ascending list of the numbers of the premises whose p is short."""
    return [number for number, (p, _) in enumerate(book.premises()) if is_short(p)]


def follows(book, number):
    """Whether the premise of this number, which may be any value, holds by all other premises."""
    require_number(book, number)
    if number not in short_premises(book):
        raise NotShort()
    return holds(without_premise(book, number), book.premises()[number])


def needless_ones(book):
    """The ascending list of the numbers of the premises with a short p that hold by all other premises."""
    return [number for number in short_premises(book) if follows(book, number)]


def _require_short(book):
    if len(short_premises(book)) < len(book):
        raise NotShort()


def _holds_by(book, numbers, number):
    """Whether the premise of this number holds by the book of the premises of these numbers."""
    premises = book.premises()
    return holds(Book(book.frame(), [premises[other] for other in numbers]), premises[number])


def thinned_book(book):
    """Any list of numbers of premises by which all others hold, while none of them holds by the others of them."""
    _require_short(book)
    kept = list(range(len(book)))
    for number in range(len(book)):
        others = [other for other in kept if other != number]
        if _holds_by(book, others, number):
            kept = others
    return kept


def is_thinned_book(book, value):
    """Whether a value, which may be any value, is a list that thinned_book may return."""
    _require_short(book)
    count = len(book)
    if not isinstance(value, (list, tuple)) or not all([is_number_below(number, count) for number in value]):
        return False
    if list(value) != [number for number in range(count) if number in value]:
        return False
    for number in range(count):
        others = [other for other in value if other != number]
        if _holds_by(book, others, number) == (number in value):
            return False
    return True


def _first_not_holding(book, other):
    """The least number of a premise of another book that does not hold by a book, or None."""
    for number, claim in enumerate(other.premises()):
        if not holds(book, claim):
            return number
    return None


def first_unlike(book, other):
    """The first premise of one of two books that does not hold by the other one, or None."""
    if book.frame() != other.frame():
        raise MixedFrames()
    _require_short(book)
    _require_short(other)
    number = _first_not_holding(book, other)
    if number is not None:
        return ("other", number)
    number = _first_not_holding(other, book)
    return None if number is None else ("book", number)
