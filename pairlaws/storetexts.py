"""Texts of deeds and of stores, written and read (S9.9, S9.10)."""

from pairlaws.books import Book
from pairlaws.deeds import premise_text
from pairlaws.errors import BadText, NameMissing, PairError
from pairlaws.relations import is_word
from pairlaws.stores import FIRST_BRANCH, MOST_BRANCHES, Held, Store
from pairlaws.termtexts import read_term, write_term
from pairlaws.worlds import World

# For each deed that tells nothing but words, how many they are.
_WORDS_TOLD = {"put": 3, "take": 3, "add": 2, "leave": 2, "unname": 1}
_KINDS = ("thing", "pair", "let", "view", "log", "branch", "here")
_DIGITS = "0123456789"
_MOST_DIGITS = 3


def write_deed(deed):
    """The text of a deed."""
    word = deed[0]
    if word == "all":
        texts = ", ".join([write_deed(single) for single in deed[1]])
        return f"all {texts}" if deed[1] else "all"
    if word in ("let", "unlet"):
        return f"{word} {premise_text(deed[1], deed[2])}"
    if word == "name":
        return f"name {deed[1]} {write_term(deed[2])}"
    return " ".join(deed)


def _premise_of(frame, text):
    sides = text.split(" <= ")
    if len(sides) != 2:
        raise BadText(0)
    return (read_term(frame, sides[0]), read_term(frame, sides[1]))


def _named_term(frame, text):
    """The name and the term of a text that tells both."""
    name, _, term = text.partition(" ")
    if not is_word(name):
        raise BadText(0)
    return (name, read_term(frame, term))


def _single_deed(frame, text):
    word, _, told = text.partition(" ")
    if word in ("let", "unlet"):
        return (word, *_premise_of(frame, told))
    if word == "name":
        return (word, *_named_term(frame, told))
    words = told.split(" ")
    if len(words) != _WORDS_TOLD.get(word) or not all([is_word(name) for name in words]):
        raise BadText(0)
    return (word, *words)


def _deed_of(frame, text):
    if text == "all":
        return ("all", ())
    if text.startswith("all "):
        return ("all", tuple([_single_deed(frame, single) for single in text[4:].split(", ")]))
    return _single_deed(frame, text)


def read_deed(frame, text):
    """The deed of a text."""
    try:
        deed = _deed_of(frame, text)
    except PairError:
        raise BadText(0) from None
    if write_deed(deed) != text:
        raise BadText(0)
    return deed


def _rows_of_first_state(state):
    book, world, views = state
    frame = book.frame()
    rows = [f"thing {sort} {x}" for sort in frame.sorts() for x in world.things(sort)]
    for letter, _, _ in frame.letters():
        rows.extend([f"pair {letter} {x} {y}" for x, y in world.relation(letter).pairs()])
    rows.extend([f"let {premise_text(p, q)}" for p, q in book.premises()])
    rows.extend([f"view {name} {write_term(term)}" for name, term in views])
    return rows


def _text_of_entry(deed):
    return f"merge {deed[1]}" if deed[0] == "merge" else write_deed(deed)


def write_store(store):
    """The text of a store."""
    rows = _rows_of_first_state(store.state(0))
    for number, (first, deed) in enumerate(store.log()):
        rows.append(f"{number + 1} {first} {_text_of_entry(deed)}")
    for name in store.branches():
        numbers = " ".join([str(number) for number in store.trail(name)])
        rows.append(f"branch {name} {store.mark(name)} {numbers}")
    rows.append(f"here {store.here()}")
    return "\n".join(rows)


def _number_of(text):
    """The number of a text, which has no unnecessary zero."""
    is_number = 1 <= len(text) <= _MOST_DIGITS and all([sign in _DIGITS for sign in text])
    if not is_number or str(int(text)) != text:
        raise BadText(0)
    return int(text)


class StoreReading:
    """What the rows of a text tell, as far as they are read; a row that is wrong raises an error."""

    def __init__(self, base):
        self.base = base
        self.kind = 0
        self.latest = None
        self.things_told = {sort: [] for sort in base.sorts()}
        self.pairs_told = {letter[0]: [] for letter in base.letters()}
        self.premises_told = []
        self.views_told = {}
        self.store = None
        self.lines = []
        self.current = None

    def take(self, row):
        """Read the next row."""
        word, _, told = row.partition(" ")
        kind = "log" if word.isdigit() else word
        if kind not in _KINDS or _KINDS.index(kind) < self.kind or self.current is not None:
            raise BadText(0)
        if _KINDS.index(kind) > self.kind:
            self.kind = _KINDS.index(kind)
            self.latest = None
        if kind == "let":
            self._take_premise(told)
        elif kind == "view":
            self._take_view(told)
        elif kind == "thing":
            self._take_thing(told.split(" "))
        elif kind == "pair":
            self._take_pair(told.split(" "))
        else:
            self._take_behind(kind, row)

    def _take_behind(self, kind, row):
        """Read a row that does not belong to state 0."""
        if self.store is None:
            self.store = Store(Book(self.base, self.premises_told),
                               World(self.base, self.things_told, self.pairs_told), self.views_told)
        words = row.split(" ")
        if kind == "log":
            self._take_entry(words)
        elif kind == "branch":
            self._take_branch(words)
        else:
            self._take_here(words)

    def _require_later(self, place):
        """Raise BadText for what is not behind the row before it, if that row is of the same kind."""
        if self.latest is not None and self.latest >= place:
            raise BadText(0)
        self.latest = place

    def _take_thing(self, words):
        sorts = self.base.sorts()
        if len(words) != 2 or words[0] not in sorts or not is_word(words[1]):
            raise BadText(0)
        sort, x = words
        self._require_later((sorts.index(sort), x))
        self.things_told[sort].append(x)

    def _take_pair(self, words):
        if len(words) != 3:
            raise BadText(0)
        letter, x, y = words
        first, second = self.base.ends(letter)
        if x not in self.things_told[first] or y not in self.things_told[second]:
            raise BadText(0)
        # The things of a sort ascend, so that their places do as their names do.
        self._require_later((list(self.pairs_told).index(letter), x, y))
        self.pairs_told[letter].append((x, y))

    def _take_premise(self, text):
        p, q = _premise_of(self.base, text)
        self.premises_told.extend(Book(self.base, [(p, q)]).premises())
        if premise_text(p, q) != text:
            raise BadText(0)
        self._require_later(text)

    def _take_view(self, text):
        name, term = _named_term(self.base, text)
        if f"{name} {write_term(term)}" != text:
            raise BadText(0)
        self._require_later(name)
        self.views_told[name] = term

    def _put_at(self, first, other):
        """Bring the store into a branch at one state, beside a branch at another one."""
        store = self.store
        held = store.held
        lines = [("first", (first,), 0), ("other", (other,), 0)]
        store.held = Held(held.states, held.entries, lines, "first")

    def _take_entry(self, words):
        if len(words) < 3:
            raise BadText(0)
        number, first = _number_of(words[0]), _number_of(words[1])
        if number != len(self.store) or first >= number:
            raise BadText(0)
        if words[2] == "merge":
            made = self._merged(first, words[3:])
        else:
            self._put_at(first, first)
            made = self.store.do(read_deed(self.base, " ".join(words[2:])))
        if made != number:
            raise BadText(0)

    def _merged(self, first, words):
        """The number of the state that a merge makes; that of the first state if the other one is an elder of it."""
        if len(words) != 1:
            raise BadText(0)
        other = _number_of(words[0])
        if other >= len(self.store):
            raise BadText(0)
        self._put_at(first, other)
        return self.store.merge("other")

    def _take_branch(self, words):
        if len(words) < 4 or not is_word(words[1]) or words[1] in [line[0] for line in self.lines]:
            raise BadText(0)
        mark, *numbers = [_number_of(word) for word in words[2:]]
        if mark >= len(numbers) or len(self.lines) >= MOST_BRANCHES or not self._is_trail(numbers):
            raise BadText(0)
        if not self.lines and (words[1] != FIRST_BRANCH or numbers[0] != 0):
            raise BadText(0)
        self.lines.append((words[1], tuple(numbers), mark))

    def _is_trail(self, numbers):
        """Whether each number is that of a state, and each state comes first of all from the one before it."""
        if not all([number < len(self.store) for number in numbers]):
            return False
        log = self.store.log()
        return all([later > 0 and log[later - 1][0] == earlier for earlier, later in zip(numbers, numbers[1:])])

    def _take_here(self, words):
        if len(words) != 2 or words[1] not in [line[0] for line in self.lines]:
            raise BadText(0)
        self.current = words[1]

    def made(self):
        """The store of all rows."""
        store = self.store
        held = store.held
        store.held = Held(held.states, held.entries, self.lines, self.current)
        return store


def read_store(frame, text):
    """The store of a text."""
    rows = text.split("\n")
    reading = StoreReading(frame)
    for number, row in enumerate(rows):
        try:
            reading.take(row)
        except (PairError, NameMissing):
            raise BadText(number) from None
    if reading.current is None:
        raise BadText(len(rows))
    return reading.made()
