"""Frames: sorts, letters between sorts, and totals of letters (S3.1)."""

from pairlaws.errors import BadFrame, ComesRound, UnknownName
from pairlaws.relations import check_names


def _check_ends(sorts, letters, totals):
    for _, first, second in letters:
        for end in (first, second):
            if end not in sorts:
                raise UnknownName(end)
    names = [letter[0] for letter in letters]
    for name, _ in totals:
        if name not in names:
            raise UnknownName(name)


def _check_totals(totals):
    for at, (name, word) in enumerate(totals):
        if word not in ("on", "back") or (name, word) in totals[:at]:
            raise BadFrame(name)


def _step_of(ends, total):
    """The two sorts between which a total is a step."""
    name, word = total
    first, second = ends[name]
    return (first, second) if word == "on" else (second, first)


def _check_steps(sorts, steps):
    left = list(sorts)
    leading = [x for x in left if any([(x, y) in steps for y in left])]
    while leading != left:
        left = leading
        leading = [x for x in left if any([(x, y) in steps for y in left])]
    if left:
        raise ComesRound(left)


class Frame:
    """A list of sorts, a list of letters (name, A, B), and a list of totals (letter, "on" or "back")."""

    def __init__(self, sorts, letters, totals):
        check_names([sorts, [letter[0] for letter in letters]])
        _check_ends(sorts, letters, totals)
        kept_totals = [(name, word) for name, word in totals]
        _check_totals(kept_totals)
        ends = {name: (first, second) for name, first, second in letters}
        _check_steps(sorts, [_step_of(ends, total) for total in kept_totals])
        self._sorts = tuple(sorts)
        self._letters = tuple([(name, first, second) for name, first, second in letters])
        self._totals = tuple(kept_totals)
        self._ends = ends

    def sorts(self):
        return list(self._sorts)

    def letters(self):
        return list(self._letters)

    def totals(self):
        return list(self._totals)

    def ends(self, name):
        if not self.has_letter(name):
            raise UnknownName(name)
        return self._ends[name]

    def has_sort(self, value):
        return value in self._sorts

    def has_letter(self, value):
        # Only a string is looked up: other values may be lists, which no dict takes.
        return isinstance(value, str) and value in self._ends

    def totals_from(self, sort):
        if not self.has_sort(sort):
            raise UnknownName(sort)
        return [total for total in self._totals if _step_of(self._ends, total)[0] == sort]

    def __eq__(self, other):
        return (isinstance(other, Frame) and self._sorts == other._sorts
                and self._letters == other._letters and self._totals == other._totals)


def led_to(frame, total):
    """The sort to which a total of the frame is a step."""
    name, word = total
    return frame.ends(name)[1 if word == "on" else 0]
