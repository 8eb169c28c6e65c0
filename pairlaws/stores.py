"""Stores: numbered states, the deeds that lead to them, and branches (S9.5 to S9.7)."""

from pairlaws.branches import elders, last_common
from pairlaws.deeds import edited, in_order
from pairlaws.errors import BadName, NoState, NothingDone, TooMany, UnknownName
from pairlaws.merging import merged
from pairlaws.relations import is_word
from pairlaws.terms import is_number_below
from pairlaws.worths import worth

MOST_STATES = 200
MOST_BRANCHES = 6
FIRST_BRANCH = "main"


class Held:
    """All that a store holds at one time: its states, its log, its branches (name, trail, mark) and the one it is in.

    It never changes: a store that changes holds another one instead, so that a store can be put back by one step.
    """

    def __init__(self, states, entries, lines, current):
        self.states = tuple(states)
        self.entries = tuple(entries)
        self.lines = tuple(lines)
        self.current = current


class Store:
    """Numbered states over one frame, each but the first made from earlier ones by a deed or a merge."""

    def __init__(self, book, world, views):
        self.held = Held([in_order(book, world, views)], [], [(FIRST_BRANCH, (0,), 0)], FIRST_BRANCH)

    def __len__(self):
        return len(self.held.states)

    def __eq__(self, other):
        return (isinstance(other, Store) and self.held.states[0] == other.held.states[0]
                and self.held.entries == other.held.entries and self.held.lines == other.held.lines
                and self.held.current == other.held.current)

    def _line(self, name):
        """The branch (name, trail, mark) of a name, which may be any value."""
        for line in self.held.lines:
            if line[0] == name:
                return line
        raise UnknownName(name)

    def _set_mark(self, trail, mark):
        """Give the branch that the store is in another trail and mark."""
        held = self.held
        lines = [(held.current, trail, mark) if line[0] == held.current else line for line in held.lines]
        self.held = Held(held.states, held.entries, lines, held.current)

    def _append(self, made, deed):
        """Make a new state from the present one by a deed or a merge."""
        number = len(self.held.states)
        if number >= MOST_STATES:
            raise TooMany()
        held = self.held
        _, trail, mark = self._line(held.current)
        self.held = Held(held.states + (made,), held.entries + ((trail[mark], deed),), held.lines, held.current)
        self._set_mark(trail[:mark + 1] + (number,), mark + 1)
        return number

    def do(self, deed):
        return self._append(edited(self.now(), deed), deed)

    def present(self):
        _, trail, mark = self._line(self.held.current)
        return trail[mark]

    def now(self):
        return self.held.states[self.present()]

    def state(self, number):
        if not is_number_below(number, len(self.held.states)):
            raise NoState(number)
        return self.held.states[number]

    def log(self):
        return list(self.held.entries)

    def frame(self):
        return self.held.states[0][0].frame()

    def worth_of(self, word):
        return self.worth_at(self.present(), word)

    def worth_at(self, number, word):
        _, world, views = self.state(number)
        for name, term in views:
            if name == word:
                return worth(world, term)
        raise UnknownName(word)

    def _move(self, steps):
        """Move the mark of the branch that the store is in."""
        _, trail, mark = self._line(self.held.current)
        if not 0 <= mark + steps < len(trail):
            raise NothingDone()
        self._set_mark(trail, mark + steps)
        return trail[mark + steps]

    def undo(self):
        return self._move(-1)

    def again(self):
        return self._move(1)

    def branch(self, name):
        held = self.held
        if not is_word(name) or name in self.branches():
            raise BadName(name)
        if len(held.lines) >= MOST_BRANCHES:
            raise TooMany()
        self.held = Held(held.states, held.entries, held.lines + ((name, (self.present(),), 0),), held.current)

    def go(self, name):
        _, trail, mark = self._line(name)
        held = self.held
        self.held = Held(held.states, held.entries, held.lines, name)
        return trail[mark]

    def here(self):
        return self.held.current

    def branches(self):
        return [line[0] for line in self.held.lines]

    def trail(self, name):
        return list(self._line(name)[1])

    def mark(self, name):
        return self._line(name)[2]

    def merge(self, name):
        _, trail, mark = self._line(name)
        present, other = self.present(), trail[mark]
        if other in elders(self, present):
            return present
        elder = last_common(self, present, other)
        made = merged(self.state(elder), self.state(present), self.state(other))
        return self._append(made, ("merge", other))

    def twin(self):
        book, world, views = self.held.states[0]
        other = Store(book, world, {name: term for name, term in views})
        other.held = self.held
        return other
