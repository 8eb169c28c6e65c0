"""Terms put in for letters, claims turned into others, and premises that tell kinds (S7.3 to S7.5)."""

from pairlaws.books import Book
from pairlaws.cases import check_law
from pairlaws.errors import MixedEnds, NotFlat, NotFree, NotSquare, UnknownName
from pairlaws.forms import is_flat, letters_in
from pairlaws.terms import ends_of, ends_of_both, parts_below

_WORDS_OF_ALL = ("one", "apart")
_WORDS_OF_SQUARE = ("self", "never", "both", "through", "single", "any")


def _check_put(frame, name, flat):
    """Raise the errors of putting a value in for a letter; name and flat may be any values."""
    ends = frame.ends(name)
    others = ends_of(frame, flat)
    if not is_flat(flat):
        raise NotFlat(0)
    if others != ends:
        raise MixedEnds(0)


def _put(term, name, flat):
    if term == ("letter", name):
        return flat
    below = parts_below(term)
    if not below:
        return term
    return (term[0], *[_put(part, name, flat) for part in below])


def put_in(frame, term, name, flat):
    """The term in which a flat term stands for a letter; all three may be any values."""
    ends_of(frame, term)
    _check_put(frame, name, flat)
    return _put(term, name, flat)


def law_put_in(frame, claim, name, flat):
    """The claim in which a flat term stands for a letter; all three may be any values."""
    ends_of_both(frame, claim)
    _check_put(frame, name, flat)
    return (_put(claim[0], name, flat), _put(claim[1], name, flat))


def book_put_in(book, name, flat):
    """The book in whose premises a flat term stands for a letter; name and flat may be any values."""
    frame = book.frame()
    _check_put(frame, name, flat)
    return Book(frame, [(_put(p, name, flat), _put(q, name, flat)) for p, q in book.premises()])


def defined(book, name, flat):
    """The book with two more premises: the letter and the flat term have the same worth."""
    frame = book.frame()
    _check_put(frame, name, flat)
    if name in [letter for letter, _ in frame.totals()] or name in letters_in(flat):
        raise NotFree(name)
    letter = ("letter", name)
    return Book(frame, book.premises() + [(letter, flat), (flat, letter)])


def _turned_then(first, second, t):
    """The claims that hold by the same books as the claim that a then of these two terms is contained in t."""
    found = []
    if is_flat(second) and is_flat(t):
        found.append((("then", ("turned", first), ("rest", t)), ("rest", second)))
    if is_flat(first) and is_flat(t):
        found.append((("then", ("rest", t), ("turned", second)), ("rest", first)))
    return found


def _turned_cut(first, second, t):
    """The claims that hold by the same books as the claim that a cut of these two terms is contained in t."""
    found = []
    if is_flat(second):
        found.append((first, ("joined", t, ("rest", second))))
    if is_flat(first):
        found.append((second, ("joined", t, ("rest", first))))
    return found


def turned_laws(frame, claim):
    """The list of claims that hold by the same books as a claim, which may be any value."""
    check_law(frame, claim)
    s, t = claim
    found = [(("turned", s), ("turned", t))]
    if s[0] == "then":
        return found + _turned_then(s[1], s[2], t)
    if s[0] == "cut":
        return found + _turned_cut(s[1], s[2], t)
    return found


def premises_of(frame, word, letter):
    """The list with the premise that tells a kind of a letter; word and letter may be any values."""
    if word not in _WORDS_OF_ALL and word not in _WORDS_OF_SQUARE:
        raise UnknownName(word)
    first, second = frame.ends(letter)
    if word in _WORDS_OF_SQUARE and first != second:
        raise NotSquare()
    r = ("letter", letter)
    turned = ("turned", r)
    premises = {
        "one": (("then", turned, r), ("same", second)),
        "apart": (("then", r, turned), ("same", first)),
        "self": (("same", first), r),
        "never": (("cut", ("same", first), r), ("none", first, first)),
        "both": (turned, r),
        "through": (("then", r, r), r),
        "single": (("cut", r, turned), ("same", first)),
        "any": (("other", first), ("joined", r, turned)),
    }
    return [premises[word]]
