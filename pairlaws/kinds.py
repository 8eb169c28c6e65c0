"""The ten kinds of relations, and the first fault of a relation that is not of a kind (S2.2)."""

from pairlaws.closing import closed, is_square, require_square
from pairlaws.errors import NotOfKind, UnknownName
from pairlaws.relations import same_pairs

_ALL_KINDS = ("each", "one", "onto", "apart", "self", "never", "both", "through", "single", "any")
_GENERAL_KINDS = ("each", "one", "onto", "apart")
_GROWN_KINDS = ("self", "both", "through")


def _first(found):
    return found[0] if found else None


def _fault_each(r):
    return _first([(x,) for x in r.sources() if not r.row(x)])


def _fault_one(r):
    for x in r.sources():
        row = r.row(x)
        if len(row) > 1:
            return (x, row[0], row[1])
    return None


def _fault_onto(r):
    return _first([(y,) for y in r.targets() if not r.column(y)])


def _fault_apart(r):
    sources = r.sources()
    for at, x in enumerate(sources):
        row = r.row(x)
        for u in sources[at + 1:]:
            for y in row:
                if (u, y) in r:
                    return (x, u, y)
    return None


def _fault_self(r):
    return _first([(x,) for x in r.sources() if (x, x) not in r])


def _fault_never(r):
    return _first([(x,) for x in r.sources() if (x, x) in r])


def _fault_both(r):
    return _first([(x, y) for x, y in r.pairs() if (y, x) not in r])


def _fault_through(r):
    for x, y in r.pairs():
        for z in r.row(y):
            if (x, z) not in r:
                return (x, y, z)
    return None


def _two_names(r):
    names = r.sources()
    return [(x, y) for at, x in enumerate(names) for y in names[at + 1:]]


def _fault_single(r):
    return _first([(x, y) for x, y in _two_names(r) if (x, y) in r and (y, x) in r])


def _fault_any(r):
    return _first([(x, y) for x, y in _two_names(r) if (x, y) not in r and (y, x) not in r])


_FAULTS = {
    "each": _fault_each,
    "one": _fault_one,
    "onto": _fault_onto,
    "apart": _fault_apart,
    "self": _fault_self,
    "never": _fault_never,
    "both": _fault_both,
    "through": _fault_through,
    "single": _fault_single,
    "any": _fault_any,
}


def first_fault(r, word):
    """The first fault of r for the kind word, which may be any value, or None."""
    if word not in _ALL_KINDS:
        raise UnknownName(word)
    if word not in _GENERAL_KINDS:
        require_square(r)
    found = _FAULTS[word]
    return found(r)


def has_kind(r, word):
    return first_fault(r, word) is None


def kinds_of(r):
    """The words of all kinds that r is of, in the order of the document."""
    words = _ALL_KINDS if is_square(r) else _GENERAL_KINDS
    return [word for word in words if has_kind(r, word)]


def is_function(r):
    return has_kind(r, "each") and has_kind(r, "one")


def _is_square_of(r, words):
    return is_square(r) and all([has_kind(r, word) for word in words])


def is_parting(r):
    return _is_square_of(r, ("self", "both", "through"))


def is_order(r):
    return _is_square_of(r, ("self", "through", "single"))


def is_strict_order(r):
    return _is_square_of(r, ("never", "through"))


def least_with(r, words):
    """The least relation that contains r and is of all the kinds in words."""
    for word in words:
        if word not in _GROWN_KINDS:
            raise UnknownName(word)
    require_square(r)
    made = r
    if "self" in words:
        made = made | same_pairs(r.sources())
    if "both" in words:
        made = made | made.turned()
    # Last, since turned pairs may lead on, while a closure stays "self" and "both".
    if "through" in words:
        made = closed(made)
    return made


def require_kinds(r, words):
    """Raise NotOfKind for the first of the words whose kind r is not of."""
    for word in words:
        fault = first_fault(r, word)
        if fault is not None:
            raise NotOfKind(word, fault)
