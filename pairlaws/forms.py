"""Which forms a term has, its pushed form, and terms with other names (S3.4, S3.5)."""

from pairlaws.terms import parts_below, parts_of, sorts_told

_NOT_FLAT = ("then", "closed", "walked")
_NOT_SHORT = ("closed", "walked")
_NOT_PLAIN = ("rest", "other", "closed", "walked")
_EXCHANGED = {"same": "other", "other": "same", "none": "all", "all": "none", "joined": "cut", "cut": "joined"}


def _has_none_of(term, words):
    return all([part[0] not in words for _, part in parts_of(term)])


def is_flat(term):
    """Whether a term contains no then, closed or walked."""
    return _has_none_of(term, _NOT_FLAT)


def is_kept(term):
    """Whether the argument of each rest in a term is flat."""
    return all([is_flat(part[1]) for _, part in parts_of(term) if part[0] == "rest"])


def is_short(term):
    """Whether a term is kept and contains no closed and no walked."""
    return is_kept(term) and _has_none_of(term, _NOT_SHORT)


def is_plain(term):
    """Whether a term contains no rest, other, closed or walked."""
    return _has_none_of(term, _NOT_PLAIN)


def size(term):
    """The number of the parts of a term."""
    return len(parts_of(term))


def without_duplicates(values):
    """The values in the order of their first occurrence."""
    return [value for at, value in enumerate(values) if value not in values[:at]]


def letters_in(term):
    """The names of the letters in a term, in the order of their first occurrence."""
    return without_duplicates([part[1] for _, part in parts_of(term) if part[0] == "letter"])


def sorts_in(term):
    """The sorts that the term tells, in the order of their first occurrence."""
    return without_duplicates([sort for _, part in parts_of(term) for sort in sorts_told(part)])


def _pushed_letter(term, turned, negated):
    made = ("turned", term) if turned else term
    return ("rest", made) if negated else made


def _pushed_sorts(term, turned, negated):
    word = _EXCHANGED[term[0]] if negated else term[0]
    sorts = sorts_told(term)[::-1] if turned else sorts_told(term)
    return (word, *sorts)


def _pushed(term, turned, negated):
    word = term[0]
    if word == "turned":
        return _pushed(term[1], not turned, negated)
    if word == "rest":
        return _pushed(term[1], turned, not negated)
    if word == "letter":
        return _pushed_letter(term, turned, negated)
    if sorts_told(term):
        return _pushed_sorts(term, turned, negated)
    if negated and not is_flat(term):
        return ("rest", _pushed(term, turned, False))
    below = [_pushed(part, turned, negated) for part in parts_below(term)]
    if word == "then" and turned:
        below = below[::-1]
    if negated:
        word = _EXCHANGED[word]
    return (word, *below)


def pushed(term):
    """The pushed form of a term: turned and rest stand as far inside as they can."""
    return _pushed(term, False, False)


def led_term(term, letters, sorts):
    """The term with other letters and sorts, by two dicts of names; names that are not in them stay."""
    if term[0] == "letter":
        return ("letter", letters.get(term[1], term[1]))
    told = [sorts.get(sort, sort) for sort in sorts_told(term)]
    below = [led_term(part, letters, sorts) for part in parts_below(term)]
    return (term[0], *told, *below)
