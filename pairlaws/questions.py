"""What is asked of one way of a claim: which leaves are let by (S6.6)."""

from pairlaws.facts import sure
from pairlaws.forms import letters_in, pushed
from pairlaws.tables import Tables
from pairlaws.terms import is_number_below


class Question:
    """A way with its made places, the premises of a book, and the second term of a claim.

    Each term is kept in the pushed form in which it must be surely so: a mark and the second term of a premise are
    looked at where they are "no", which is where their rest is "yes".
    """

    def __init__(self, book, way, goal):
        self.base = book.frame()
        self.way = way
        self.tables = Tables(way[0])
        self.goal = pushed(goal)
        self.denied_marks = tuple([(pushed(("rest", term)), i, j) for term, i, j in way[1]])
        self.rules = tuple([(pushed(p), pushed(("rest", q))) for p, q in book.premises()])
        self.letters_that_count = tuple(_letters_in_all(self.base, self._terms()))

    def _terms(self):
        """All terms that are looked at."""
        pairs = [term for rule in self.rules for term in rule]
        return [self.goal] + [mark[0] for mark in self.denied_marks] + pairs


def _letters_in_all(frame, terms):
    """The names of the letters in any of the terms, in the order of the frame."""
    found = [name for term in terms for name in letters_in(term)]
    return [letter[0] for letter in frame.letters() if letter[0] in found]


def is_held(question, facts):
    """Whether the second term of the claim is surely so at the places 0 and 1."""
    return question.tables.has(sure(facts, question.goal), 0, 1)


def is_off(question, facts, k):
    """Whether mark k, which may be any value, is a mark that has the value no."""
    if not is_number_below(k, len(question.denied_marks)):
        return False
    denied, i, j = question.denied_marks[k]
    return question.tables.has(sure(facts, denied), i, j)


def broken_table(question, facts, n):
    """The table of the places at which premise n is broken."""
    p, denied = question.rules[n]
    found = sure(facts, p)
    return found & sure(facts, denied) if found else 0


def is_broken(question, facts, n, i, j):
    """Whether n, i and j, which may be any values, are a premise that is broken and the places at which it is."""
    count = question.tables.count
    if not is_number_below(n, len(question.rules)) or not is_number_below(i, count) or not is_number_below(j, count):
        return False
    return question.tables.has(broken_table(question, facts, n), i, j)


def lets_by(question, facts, leaf):
    """Whether a leaf, a tuple of the form of a leaf, is let by for these facts."""
    word = leaf[0]
    if word == "clash":
        return facts.clashes()
    if word == "off":
        return is_off(question, facts, leaf[1])
    if word == "broken":
        return is_broken(question, facts, leaf[1], leaf[2], leaf[3])
    return is_held(question, facts)
