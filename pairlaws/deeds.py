"""States of stores, the deeds that lead from one to another, and how states differ (S9.1 to S9.4)."""

from pairlaws.books import Book, first_broken
from pairlaws.errors import BadDeed, BadName, Broken, MixedFrames, NotTold, TwiceTold, UnknownName
from pairlaws.relations import is_word
from pairlaws.terms import ends_of
from pairlaws.termtexts import write_term
from pairlaws.worlds import World, with_pair, with_thing, without_pair, without_thing
from pairlaws.worths import worth

# For each word the number of the strings, and of the other values, that follow it.
_MEMBERS = {
    "put": (3, 0),
    "take": (3, 0),
    "add": (2, 0),
    "leave": (2, 0),
    "name": (1, 1),
    "unname": (1, 0),
    "let": (0, 2),
    "unlet": (0, 2),
}


def premise_text(p, q):
    """The text of a premise, by which premises are in order."""
    return f"{write_term(p)} <= {write_term(q)}"


def _book_in_order(book):
    """The book whose premises ascend by their texts, each once."""
    premise_of = {premise_text(p, q): (p, q) for p, q in book.premises()}
    return Book(book.frame(), [premise_of[text] for text in sorted([str(text) for text in premise_of])])


def _world_in_order(world):
    """The world whose things ascend."""
    things, pairs = world.told()
    ordered = {sort: sorted([str(x) for x in things[sort]]) for sort in things}
    return World(world.frame(), ordered, pairs)


def in_order(book, world, views):
    """The state of a book, a world and a dict of views; names and terms may be any values."""
    if book.frame() != world.frame():
        raise MixedFrames()
    for name in views:
        if not is_word(name):
            raise BadName(name)
    for name in views:
        ends_of(book.frame(), views[name])
    ordered_book, ordered_world = _book_in_order(book), _world_in_order(world)
    broken = first_broken(ordered_book, ordered_world)
    if broken is not None:
        raise Broken(broken)
    return (ordered_book, ordered_world, tuple([(name, views[name]) for name in sorted([str(name) for name in views])]))


def _is_single_deed(value):
    """Whether a value, which may be any value, has the form of a deed other than "all"."""
    if not isinstance(value, tuple) or not value or not isinstance(value[0], str) or value[0] not in _MEMBERS:
        return False
    strings, others = _MEMBERS[value[0]]
    if len(value) != 1 + strings + others:
        return False
    return all([isinstance(member, str) for member in value[1:1 + strings]])


def _is_all(value):
    """Whether a value, which may be any value, is an "all" of values, of whatever form."""
    return isinstance(value, tuple) and len(value) == 2 and value[0] == "all" and isinstance(value[1], tuple)


def single_deeds(deed):
    """The list of the deeds that are performed one after the other by a deed, which may be any value."""
    found = list(deed[1]) if _is_all(deed) else [deed]
    if not all([_is_single_deed(one) for one in found]):
        raise BadDeed()
    return found


def _world_after(world, deed):
    word = deed[0]
    if word == "add":
        return with_thing(world, deed[1], deed[2])
    if word == "leave":
        return without_thing(world, deed[1], deed[2])
    _, letter, x, y = deed
    if word == "put":
        return with_pair(world, letter, x, y)
    after = without_pair(world, letter, x, y)
    if not world.has(letter, x, y):
        raise NotTold((letter, x, y))
    return after


def _views_after(frame, views, deed):
    name = deed[1]
    if deed[0] == "unname":
        if name not in views:
            raise UnknownName(name)
        return {other: views[other] for other in views if other != name}
    if not is_word(name):
        raise BadName(name)
    ends_of(frame, deed[2])
    return {**views, name: deed[2]}


def _book_after(book, deed):
    word, p, q = deed
    premises = book.premises()
    if word == "unlet":
        if (p, q) not in premises:
            raise NotTold((p, q))
        return Book(book.frame(), [premise for premise in premises if premise != (p, q)])
    single = Book(book.frame(), [(p, q)]).premises()
    if (p, q) in premises:
        raise TwiceTold((p, q))
    return Book(book.frame(), premises + single)


def edited(state, deed):
    """The state after a deed, which may be any value."""
    book, world, views = state[0], state[1], {name: term for name, term in state[2]}
    for single in single_deeds(deed):
        if single[0] in ("put", "take", "add", "leave"):
            world = _world_after(world, single)
        elif single[0] in ("name", "unname"):
            views = _views_after(book.frame(), views, single)
        else:
            book = _book_after(book, single)
    # Only the state after all deeds must obey its book.
    return in_order(book, world, views)


def _require_same_frames(state, other):
    if state[0].frame() != other[0].frame():
        raise MixedFrames()


def _things_lacked(state, other):
    """The list of the (sort, thing) of a state that another one lacks."""
    sorts = state[0].frame().sorts()
    return [(sort, x) for sort in sorts for x in state[1].things(sort) if x not in other[1].things(sort)]


def _pairs_lacked(state, other):
    """The list of the (letter, x, y) of a state that another one lacks."""
    return [(letter, x, y) for letter, _, _ in state[0].frame().letters()
            for x, y in state[1].relation(letter).pairs() if not other[1].has(letter, x, y)]


def _has_both(state, letter, x, y):
    """Whether a state has two things of the ends of a letter."""
    first, second = state[0].frame().ends(letter)
    return x in state[1].things(first) and y in state[1].things(second)


def _premises_lacked(state, other):
    return [premise for premise in state[0].premises() if premise not in other[0].premises()]


def deed_between(state, other):
    """The deed that leads from a state to another one."""
    _require_same_frames(state, other)
    names = [name for name, _ in other[2]]
    deeds = [("unlet", p, q) for p, q in _premises_lacked(state, other)]
    deeds.extend([("unname", name) for name, _ in state[2] if name not in names])
    deeds.extend([("leave", sort, x) for sort, x in _things_lacked(state, other)])
    deeds.extend([("take", letter, x, y) for letter, x, y in _pairs_lacked(state, other)
                  if _has_both(other, letter, x, y)])
    deeds.extend([("add", sort, x) for sort, x in _things_lacked(other, state)])
    deeds.extend([("put", letter, x, y) for letter, x, y in _pairs_lacked(other, state)])
    deeds.extend([("name", name, term) for name, term in other[2] if (name, term) not in state[2]])
    deeds.extend([("let", p, q) for p, q in _premises_lacked(other, state)])
    return ("all", tuple(deeds))


def back(state, deed):
    """The deed that leads from the state after a deed, which may be any value, back to the state before."""
    return deed_between(edited(state, deed), state)


def _pairs_of_view(state, word):
    """The list of the pairs of a view, which is empty if the state has no view of this name."""
    for name, term in state[2]:
        if name == word:
            return worth(state[1], term).pairs()
    return []


def differences(state, other):
    """The list of (word, gained, lost) of the views whose pairs differ in two states."""
    _require_same_frames(state, other)
    names = {name: True for name, _ in state[2] + other[2]}
    found = []
    for word in sorted([str(name) for name in names]):
        before, after = _pairs_of_view(state, word), _pairs_of_view(other, word)
        gained = tuple([pair for pair in after if pair not in before])
        lost = tuple([pair for pair in before if pair not in after])
        if gained or lost:
            found.append((word, gained, lost))
    return found
