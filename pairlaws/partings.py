"""Partings, which are equivalence relations, and the kernels of functions (S2.3)."""

from pairlaws.closing import first_rows, require_square
from pairlaws.errors import TooMany, TwiceTold, UnknownName
from pairlaws.kinds import least_with, require_kinds
from pairlaws.relations import Relation, check_names, first_again

_MOST_PARTED = 6


def require_parting(r):
    require_square(r)
    require_kinds(r, ("self", "both", "through"))


def require_function(f):
    require_kinds(f, ("each", "one"))


def classes(r):
    """The classes of a parting, ordered by their first names."""
    require_parting(r)
    return first_rows(r)


def parting(names, lists):
    """The parting in which each of the lists is a class and each other name is a class by itself."""
    check_names([names])
    entries = [entry for members in lists for entry in members]
    for entry in entries:
        if entry not in names:
            raise UnknownName(entry)
    again = first_again(entries)
    if again is not None:
        raise TwiceTold(again)
    pairs = [(x, y) for members in lists for x in members for y in members]
    return Relation(names, names, pairs + [(x, x) for x in names])


def least_parting(r):
    """The least parting that contains a square relation."""
    return least_with(r, ("self", "both", "through"))


def joined_partings(r, s):
    """The least parting that contains both partings; the union raises MixedNames."""
    require_parting(r)
    require_parting(s)
    return least_parting(r | s)


def cut_partings(r, s):
    """The greatest parting that both partings contain; the intersection raises MixedNames."""
    require_parting(r)
    require_parting(s)
    return r & s


def _with_member(lists, name):
    """All ways to put one more name into one of the lists or into a new one."""
    grown = [lists[:at] + [lists[at] + [name]] + lists[at + 1:] for at in range(len(lists))]
    return grown + [lists + [[name]]]


def _places_text(r):
    """The places of all pairs as one text. As each place is one digit, texts ascend as lists of pairs do."""
    names = r.sources()
    return "".join([f"{names.index(x)}{names.index(y)}" for x, y in r.pairs()])


def all_partings(names):
    """All partings of at most six names, ascending by the lists of the places of their pairs."""
    check_names([names])
    if len(names) > _MOST_PARTED:
        raise TooMany()
    found = [[]]
    for name in names:
        found = [grown for lists in found for grown in _with_member(lists, name)]
    made = [parting(names, lists) for lists in found]
    by_text = {_places_text(r): r for r in made}
    return [by_text[text] for text in sorted([str(text) for text in by_text])]


def kernel(f):
    """The parting of the sources of a function by their targets."""
    require_function(f)
    return f >> f.turned()


def target_of(f, x):
    """The only target of a source of a function."""
    require_function(f)
    return f.row(x)[0]
