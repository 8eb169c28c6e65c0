"""The texts of terms (S3.6, S3.7)."""

from pairlaws.errors import BadText
from pairlaws.terms import ends_of, parts_below, parts_inner_first, sorts_told

_SORT_SIGNS = {"same": "1", "other": "2", "none": "0", "all": "9"}
_SORT_WORDS = {"1": "same", "2": "other", "0": "none", "9": "all"}
_SORTS_OF_SIGN = {"1": 1, "2": 1, "0": 2, "9": 2}
_SIGNS_AFTER = {"turned": "'", "closed": "+", "walked": "*"}
_WORDS_AFTER = {"'": "turned", "+": "closed", "*": "walked"}
_SIGNS_BETWEEN = {"then": ";", "cut": "&", "joined": "|"}
_WORDS_BETWEEN = {";": "then", "&": "cut", "|": "joined"}
# What binds more tightly has the greater number; terms that are not listed bind most tightly.
_TIGHTNESS = {"joined": 0, "cut": 1, "then": 2, "rest": 3}
_TIGHTEST = 4
_LETTERS = "abcdefghijklmnopqrstuvwxyz"
_WORD_SIGNS = "abcdefghijklmnopqrstuvwxyz0123456789"
_LONGEST_WORD = 12
_OPEN = "("


def _tightness(term):
    return _TIGHTNESS.get(term[0], _TIGHTEST)


def _within(text, part, tightness):
    """The text of a part, in brackets if it binds less tightly than its place needs."""
    return text if _tightness(part) >= tightness else f"({text})"


def _text_of_leaf(part):
    if part[0] == "letter":
        return part[1]
    sorts = " ".join(sorts_told(part))
    return f"{_SORT_SIGNS[part[0]]}[{sorts}]"


def _text_of(part, below):
    """The text of a part whose own parts have these texts."""
    if not below:
        return _text_of_leaf(part)
    word = part[0]
    own = _tightness(part)
    first = _within(below[0], part[1], own)
    if word == "rest":
        return "~" + first
    if word in _SIGNS_AFTER:
        return first + _SIGNS_AFTER[word]
    # Equal signs associate to the left, so a right part needs brackets already if it binds equally.
    return f"{first} {_SIGNS_BETWEEN[word]} {_within(below[1], part[2], own + 1)}"


def write_term(term):
    """The text of a term."""
    # No recursion here and below: a text may have some hundreds of brackets and signs inside one another.
    texts = {}
    for path, part in parts_inner_first(term):
        below = [texts[path + (number,)] for number in range(len(parts_below(part)))]
        texts[path] = _text_of(part, below)
    return texts[()]


def _behind(text, at, sign):
    """The index behind this sign, which must stand at this index."""
    if text[at:at + 1] != sign:
        raise BadText(at)
    return at + 1


def _behind_word(text, start):
    """The index behind the word that must begin at this index."""
    if start == len(text) or text[start] not in _LETTERS:
        raise BadText(start)
    end = start
    while end < len(text) and text[end] in _WORD_SIGNS:
        end += 1
    if end - start > _LONGEST_WORD:
        raise BadText(start + _LONGEST_WORD)
    return end


def _leaf_at(text, start):
    """The letter, same, other, none or all that must begin at this index, and the index behind it."""
    sign = text[start:start + 1]
    if sign not in _SORT_WORDS:
        end = _behind_word(text, start)
        return (("letter", text[start:end]), end)
    told = []
    end = _behind(text, start + 1, "[")
    for number in range(_SORTS_OF_SIGN[sign]):
        begin = end if number == 0 else _behind(text, end, " ")
        end = _behind_word(text, begin)
        told.append(text[begin:end])
    return ((_SORT_WORDS[sign], *told), _behind(text, end, "]"))


def _sign_between_at(text, blank):
    """The word of the sign between two terms whose first blank is at this index, and the index behind it."""
    sign = text[blank + 1:blank + 2]
    if sign not in _WORDS_BETWEEN:
        raise BadText(blank + 1)
    return (_WORDS_BETWEEN[sign], _behind(text, blank + 2, " "))


class Reading:
    """The terms that were read and are not yet parts of others, and the signs that wait for their terms."""

    def __init__(self):
        self.terms = []
        self.waiting = []
        self.opened = 0

    def begin(self, word):
        self.waiting.append(word)
        self.opened += 1 if word == _OPEN else 0

    def take(self, term):
        self.terms.append(term)

    def put_after(self, word):
        self.terms.append((word, self.terms.pop()))

    def finish(self, tightness):
        """Build the terms of all signs since the last open bracket that bind at least so tightly."""
        while self.waiting and _TIGHTNESS.get(self.waiting[-1], -1) >= tightness:
            word = self.waiting.pop()
            last = self.terms.pop()
            self.terms.append((word, last) if word == "rest" else (word, self.terms.pop(), last))

    def put_between(self, word):
        self.finish(_TIGHTNESS[word])
        self.waiting.append(word)

    def shut_bracket(self):
        self.finish(0)
        self.waiting.pop()
        self.opened -= 1


def _read_beginning(reading, text, start):
    """Read a term up to its first letter or sorts, with the signs and brackets before it."""
    at = start
    while text[at:at + 1] in ("~", _OPEN):
        reading.begin("rest" if text[at] == "~" else _OPEN)
        at += 1
    leaf, end = _leaf_at(text, at)
    reading.take(leaf)
    return end


def _read_ending(reading, text, start):
    """Read the signs and brackets that end a term."""
    at = start
    while text[at:at + 1] in _WORDS_AFTER or (text[at:at + 1] == ")" and reading.opened > 0):
        if text[at] == ")":
            reading.shut_bracket()
        else:
            reading.put_after(_WORDS_AFTER[text[at]])
        at += 1
    return at


def _term_of(text):
    reading = Reading()
    at = _read_ending(reading, text, _read_beginning(reading, text, 0))
    while text[at:at + 1] == " ":
        word, at = _sign_between_at(text, at)
        reading.put_between(word)
        at = _read_ending(reading, text, _read_beginning(reading, text, at))
    if at < len(text) or reading.opened > 0:
        raise BadText(at)
    reading.finish(0)
    return reading.terms[0]


def read_term(frame, text):
    """The term of a text."""
    term = _term_of(text)
    ends_of(frame, term)
    return term
