"""Terms over a frame, their parts and the paths of these (S3.2, S3.3)."""

from pairlaws.errors import BadTerm

_PARTS_BELOW = {
    "letter": 0,
    "same": 0,
    "other": 0,
    "none": 0,
    "all": 0,
    "rest": 1,
    "turned": 1,
    "joined": 2,
    "cut": 2,
    "then": 2,
    "closed": 1,
    "walked": 1,
}
_SORTS_TOLD = {"same": 1, "other": 1, "none": 2, "all": 2}


def parts_below(term):
    """The tuple of the one or two terms from which a term is built, or () for a term without parts."""
    return term[1:1 + _PARTS_BELOW[term[0]]]


def sorts_told(part):
    """The tuple of the sorts that a same, other, none or all tells; () for another part."""
    return part[1:1 + _SORTS_TOLD.get(part[0], 0)]


def has_form(frame, value):
    """Whether a value, which may be any value, is a part of a right form; its own parts are not looked at."""
    if not isinstance(value, tuple) or not value:
        return False
    word = value[0]
    if not isinstance(word, str) or word not in _PARTS_BELOW:
        return False
    if word == "letter":
        return len(value) == 2 and frame.has_letter(value[1])
    if len(value) != 1 + _PARTS_BELOW[word] + _SORTS_TOLD.get(word, 0):
        return False
    return all([frame.has_sort(sort) for sort in sorts_told(value)])


def _below(path, part):
    """The list of (path, part) of the one or two parts directly below a part."""
    return [(path + (number,), below) for number, below in enumerate(parts_below(part))]


def _parts_checked(frame, value):
    # No recursion here and below: a value that is no term may be nested deep.
    found = []
    waiting = [((), value)]
    while waiting:
        path, part = waiting.pop()
        if frame is not None and not has_form(frame, part):
            raise BadTerm(path)
        found.append((path, part))
        waiting.extend(_below(path, part)[::-1])
    return found


def parts_of(term):
    """The list of (path, part) of all parts, each part before its own parts."""
    return _parts_checked(None, term)


def parts_inner_first(term):
    """The list of (path, part) of all parts, each part after its own parts."""
    found = []
    waiting = [((), term)]
    while waiting:
        path, part = waiting.pop()
        found.append((path, part))
        waiting.extend(_below(path, part))
    return found[::-1]


def _ends_of_leaf(frame, part):
    if part[0] == "letter":
        return frame.ends(part[1])
    sorts = sorts_told(part)
    return (sorts[0], sorts[-1])


def _ends_of_one(word, ends):
    """The ends of a part with one part below it, which has these ends, or None if they do not fit."""
    first, second = ends
    if word == "turned":
        return (second, first)
    if word in ("closed", "walked") and first != second:
        return None
    return (first, second)


def _ends_of_two(word, ends, others):
    """The ends of a part with two parts below it, which have these ends, or None if they do not fit."""
    if word == "then":
        return (ends[0], others[1]) if ends[1] == others[0] else None
    return ends if ends == others else None


def ends_above(frame, part, below):
    """The ends of a part whose own parts have these ends, or None if they do not fit."""
    if len(below) == 2:
        return _ends_of_two(part[0], below[0], below[1])
    if len(below) == 1:
        return _ends_of_one(part[0], below[0])
    return _ends_of_leaf(frame, part)


def ends_of(frame, term):
    """The pair of the ends of a term, which may be any value."""
    _parts_checked(frame, term)
    found = {}
    for path, part in parts_inner_first(term):
        ends = ends_above(frame, part, [found[below] for below, _ in _below(path, part)])
        if ends is None:
            raise BadTerm(path)
        found[path] = ends
    return found[()]


def ends_behind(path, frame, term):
    """The ends of a value that stands behind a path in something larger; BadTerm tells the whole path."""
    try:
        return ends_of(frame, term)
    except BadTerm as wrong:
        raise BadTerm(path + wrong.path) from None


def ends_of_both(frame, claim):
    """The ends of the two terms of a claim, which may be any value."""
    if not isinstance(claim, tuple) or len(claim) != 2:
        raise BadTerm(())
    return (ends_behind((0,), frame, claim[0]), ends_behind((1,), frame, claim[1]))


def paths(term):
    """The list of the paths of all parts, each part before its own parts."""
    return [path for path, _ in parts_of(term)]


def is_number_below(value, limit):
    """Whether a value, which may be any value, is one of the numbers from 0 on that are less than limit."""
    return isinstance(value, int) and not isinstance(value, bool) and 0 <= value < limit


def part_at(term, path):
    """The part at a path, which is a tuple of any values."""
    part = term
    for number in path:
        below = parts_below(part)
        if not is_number_below(number, len(below)):
            raise BadTerm(path)
        part = below[number]
    return part


def with_part(term, path, part):
    """The term in which the part at a path is replaced by another term."""
    part_at(term, path)
    made = part
    for depth in reversed(range(len(path))):
        above = part_at(term, path[:depth])
        at = path[depth] + 1
        made = above[:at] + (made,) + above[at + 1:]
    return made
