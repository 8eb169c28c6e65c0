"""Relations between two lists of names (S1.1 to S1.3)."""

from pairlaws.errors import BadName, MixedNames, TwiceTold, UnknownName

_LETTERS = "abcdefghijklmnopqrstuvwxyz"
_SIGNS = "abcdefghijklmnopqrstuvwxyz0123456789"


def is_word(value):
    """Whether a value, which may be any value, is a word."""
    if not isinstance(value, str) or not 1 <= len(value) <= 12:
        return False
    return value[0] in _LETTERS and all([sign in _SIGNS for sign in value])


def first_again(names):
    """The first of the names that stands earlier in the list, or None."""
    for at, name in enumerate(names):
        if name in names[:at]:
            return name
    return None


def check_names(lists):
    """Raise BadName, then TwiceTold, for the first wrong name of the lists of names."""
    for names in lists:
        for name in names:
            if not is_word(name):
                raise BadName(name)
    for names in lists:
        if len(set(names)) < len(names):
            raise TwiceTold(first_again(names))


def _places_of(names):
    return {name: place for place, name in enumerate(names)}


def _is_in(places, value):
    # Only a string is looked up: other values may be lists, which no dict takes.
    return isinstance(value, str) and value in places


def _place_in(places, value):
    if not _is_in(places, value):
        raise UnknownName(value)
    return places[value]


def _packed(source_places, target_places, pairs):
    rows = [0 for _ in source_places]
    for x, y in pairs:
        at = _place_in(source_places, x)
        rows[at] = rows[at] | (1 << _place_in(target_places, y))
    return tuple(rows)


def _joined_rows(rows, chosen):
    """The union of those rows whose places are bits of chosen."""
    joined = 0
    for place, row in enumerate(rows):
        if chosen >> place & 1:
            joined = joined | row
    return joined


def _column_of(rows, at):
    return sum([1 << place for place, row in enumerate(rows) if row >> at & 1])


def _require_same_names(r, s):
    if r.sources() != s.sources() or r.targets() != s.targets():
        raise MixedNames()


class PackedRows:
    """Pairs in the form that a Relation keeps: one integer for each source, whose bit j is target j."""

    def __init__(self, bits):
        self.bits = tuple(bits)


class Relation:
    """A list of sources, a list of targets, and a set of pairs of a source and a target."""

    def __init__(self, sources, targets, pairs):
        check_names([sources, targets])
        self._sources = tuple(sources)
        self._targets = tuple(targets)
        self._source_places = _places_of(sources)
        self._target_places = _places_of(targets)
        # The operators pass their pairs packed: to name each pair would cost more than the operation.
        if isinstance(pairs, PackedRows):
            self._rows = pairs.bits
        else:
            self._rows = _packed(self._source_places, self._target_places, pairs)

    def sources(self):
        return list(self._sources)

    def targets(self):
        return list(self._targets)

    def pairs(self):
        return [(x, y) for x in self._sources for y in self.row(x)]

    def row(self, x):
        row = self._rows[_place_in(self._source_places, x)]
        return [y for place, y in enumerate(self._targets) if row >> place & 1]

    def column(self, y):
        at = _place_in(self._target_places, y)
        return [x for place, x in enumerate(self._sources) if self._rows[place] >> at & 1]

    def turned(self):
        columns = [_column_of(self._rows, at) for at in range(len(self._targets))]
        return Relation(self._targets, self._sources, PackedRows(columns))

    def __contains__(self, value):
        if not isinstance(value, tuple) or len(value) != 2:
            return False
        x, y = value
        if not _is_in(self._source_places, x) or not _is_in(self._target_places, y):
            return False
        return self._rows[self._source_places[x]] >> self._target_places[y] & 1 == 1

    def __len__(self):
        return len(self.pairs())

    def __eq__(self, other):
        return (isinstance(other, Relation) and self._sources == other._sources
                and self._targets == other._targets and self._rows == other._rows)

    def _with_rows(self, rows):
        return Relation(self._sources, self._targets, PackedRows(rows))

    def __or__(self, other):
        if not isinstance(other, Relation):
            return NotImplemented
        _require_same_names(self, other)
        return self._with_rows([row | more for row, more in zip(self._rows, other._rows)])

    def __and__(self, other):
        if not isinstance(other, Relation):
            return NotImplemented
        _require_same_names(self, other)
        return self._with_rows([row & more for row, more in zip(self._rows, other._rows)])

    def __sub__(self, other):
        if not isinstance(other, Relation):
            return NotImplemented
        _require_same_names(self, other)
        return self._with_rows([row & ~less for row, less in zip(self._rows, other._rows)])

    def __invert__(self):
        full = (1 << len(self._targets)) - 1
        return self._with_rows([full & ~row for row in self._rows])

    def __rshift__(self, other):
        if not isinstance(other, Relation):
            return NotImplemented
        if self._targets != other._sources:
            raise MixedNames()
        rows = [_joined_rows(other._rows, row) for row in self._rows]
        return Relation(self._sources, other._targets, PackedRows(rows))

    def __le__(self, other):
        if not isinstance(other, Relation):
            return NotImplemented
        _require_same_names(self, other)
        return all([row & more == row for row, more in zip(self._rows, other._rows)])

    def __lt__(self, other):
        if not isinstance(other, Relation):
            return NotImplemented
        return self <= other and self._rows != other._rows

    def __ge__(self, other):
        if not isinstance(other, Relation):
            return NotImplemented
        return other <= self

    def __gt__(self, other):
        if not isinstance(other, Relation):
            return NotImplemented
        return other < self


def every_pair(sources, targets):
    return Relation(sources, targets, [(x, y) for x in sources for y in targets])


def no_pair(sources, targets):
    return Relation(sources, targets, [])


def same_pairs(names):
    return Relation(names, names, [(x, x) for x in names])


def other_pairs(names):
    return every_pair(names, names) - same_pairs(names)
