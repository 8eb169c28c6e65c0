"""What the tests of part 6 share: the values of terms by a branch, read from the document point by point."""

import itertools
import random

from pairlaws.books import Book
from pairlaws.forms import is_flat
from pairlaws.frames import Frame
from pairlaws.terms import ends_of
from pairlaws.worlds import World
from tests.termsupport import FLAT, FRAME, KEPT, chance_term

TOTAL = Frame(["a", "b"], [("r", "a", "b"), ("s", "b", "a"), ("t", "a", "a"), ("u", "b", "b")], [("r", "on")])


class Branch:
    """What the document says of a branch."""

    def __init__(self, frame, way, branch):
        self.frame, self.sorts, self.branch = frame, way[0], branch
        self.class_of = list(range(len(way[0])))
        for atom, answer in branch:
            if atom[0] == "same" and answer:
                old, new = self.class_of[atom[1]], self.class_of[atom[2]]
                self.class_of = [new if one == old else one for one in self.class_of]

    def one(self, i, j):
        return self.class_of[i] == self.class_of[j]

    def known(self, letter, i, j, answer):
        return any(atom[0] == "letter" and atom[1] == letter and self.one(atom[2], i) and self.one(atom[3], j)
                   for atom, given in self.branch if given is answer)

    def unlike(self, i, j):
        return any(atom[0] == "same" and given is False and (
            self.one(atom[1], i) and self.one(atom[2], j) or self.one(atom[1], j) and self.one(atom[2], i))
            for atom, given in self.branch)

    def clashes(self):
        places = range(len(self.sorts))
        both = any(self.known(name, i, j, True) and self.known(name, i, j, False)
                   for name, _, _ in self.frame.letters() for i in places for j in places)
        return both or any(atom[0] == "same" and given is False and self.one(atom[1], atom[2]) for atom, given in self.branch)

    def value(self, term, i, j):
        word, *told = term
        if word == "letter":
            return "yes" if self.known(told[0], i, j, True) else "no" if self.known(told[0], i, j, False) else "open"
        if word in ("same", "other"):
            yes, no = ("yes", "no") if word == "same" else ("no", "yes")
            return yes if self.one(i, j) else no if self.unlike(i, j) else "open"
        if word in ("none", "all"):
            return "no" if word == "none" else "yes"
        if word == "rest":
            return {"yes": "no", "no": "yes", "open": "open"}[self.value(told[0], i, j)]
        if word == "turned":
            return self.value(told[0], j, i)
        found = [self.value(part, i, j) for part in told]
        first, second = ("yes", "no") if word == "joined" else ("no", "yes")
        return first if first in found else second if found == [second] * 2 else "open"

    def so(self, term, i, j):
        word, *told = term
        if is_flat(term):
            return self.value(term, i, j) == "yes"
        if word == "rest":
            return self.value(told[0], i, j) == "no"
        if word == "turned":
            return self.so(told[0], j, i)
        if word == "joined":
            return self.so(told[0], i, j) or self.so(told[1], i, j)
        if word == "cut":
            return self.so(told[0], i, j) and self.so(told[1], i, j)
        ends = ends_of(self.frame, told[0])
        places = [k for k, sort in enumerate(self.sorts) if sort == ends[1]]
        if word == "then":
            return any(self.so(told[0], i, k) and self.so(told[1], k, j) for k in places)
        if word == "walked" and self.one(i, j):
            return True
        reached, waiting = set(), [i]
        while waiting:
            at = waiting.pop()
            for k in places:
                if k not in reached and self.so(told[0], at, k):
                    reached.add(k)
                    waiting.append(k)
        return j in reached


def is_leaf_let_by(book, claim, way, branch, leaf):
    """Whether a leaf with the right numbers is let by, by the document."""
    known = Branch(book.frame(), way, branch)
    if leaf[0] == "clash":
        return known.clashes()
    if leaf[0] == "off":
        term, i, j = way[1][leaf[1]]
        return known.value(term, i, j) == "no"
    if leaf[0] == "broken":
        p, q = book.premises()[leaf[1]]
        if ends_of(book.frame(), p) != (way[0][leaf[2]], way[0][leaf[3]]):
            return False
        return known.so(p, *leaf[2:]) and known.value(q, *leaf[2:]) == "no"
    return known.so(claim[1], 0, 1)


def chance_premises(chance, count, depth=3):
    premises = []
    for _ in range(count):
        ends = (chance.choice("ab"), chance.choice("ab"))
        premises.append((chance_term(chance, ends, depth, (KEPT,)), chance_term(chance, ends, 2, FLAT)))
    return premises


def chance_book(chance, most=3, frames=(FRAME, TOTAL)):
    return Book(chance.choice(frames), chance_premises(chance, chance.randint(0, most)))


def all_small_worlds(frame, most):
    """All worlds, up to the names of things, with at most so many things."""
    sorts = frame.sorts()
    for counts in itertools.product(range(most + 1), repeat=len(sorts)):
        if sum(counts) > most:
            continue
        things = {sort: [f"x{number}" for number in range(count)] for sort, count in zip(sorts, counts)}
        spots = [(name, x, y) for name, first, second in frame.letters() for x in things[first] for y in things[second]]
        for taken in itertools.product((False, True), repeat=len(spots)):
            pairs = {letter[0]: [] for letter in frame.letters()}
            for spot, is_in in zip(spots, taken):
                if is_in:
                    pairs[spot[0]].append(spot[1:])
            yield World(frame, things, pairs)


def chance_branch(chance, atoms, most):
    return [(chance.choice(atoms), chance.random() < 0.6) for _ in range(chance.randint(0, most))] if atoms else []


def seeded(seed):
    return random.Random(seed)
