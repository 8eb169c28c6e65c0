"""Claims, their ways, and case papers (S6.1, S6.6)."""

import unittest

from pairlaws.books import Book
from pairlaws.cases import bound, check_law, first_wrong, is_let_by, leaves, ways_of_law, weeded
from pairlaws.deciding import decide, decide_way, holds
from pairlaws.errors import BadPaper, BadTerm, MixedEnds, NotKept, NotShort
from pairlaws.known import Known, atoms_of
from pairlaws.lawpapers import judge, judge_papers, judge_world
from pairlaws.ways import made, ways
from pairlaws.worlds import World
from tests.casesupport import TOTAL, chance_book, chance_branch, chance_premises, is_leaf_let_by, seeded
from tests.support import ODD_VALUES, Case
from tests.termsupport import FRAME, KEPT, R, S, SHORT, T, U, chance_term, nested

TT, RS = ("then", T, T), ("then", R, S)
THROUGH = Book(FRAME, [(TT, T), (("cut", T, ("turned", T)), ("same", "a"))])
CLAIM = (("then", TT, T), T)
EMPTY = World(FRAME, {"a": [], "b": []}, {"r": [], "s": [], "t": [], "u": []})
# Each function that takes a frame or a book and a claim, with further arguments that do not matter.
CALLS = [(check_law, FRAME, ()), (ways_of_law, THROUGH, ()), (bound, THROUGH, ()), (decide, THROUGH, ()), (holds, THROUGH, ()),
         (is_let_by, THROUGH, (0, [None], None)), (first_wrong, THROUGH, (0, None)), (weeded, THROUGH, (0, None)),
         (decide_way, THROUGH, (0,)), (judge_papers, THROUGH, (None,)), (judge_world, THROUGH, (EMPTY, None)),
         (judge, THROUGH, (None,))]
T02, T01 = ("letter", "t", 0, 2), ("letter", "t", 0, 1)


def asked(atom, yes, no):
    return ("case", atom, yes, no)


# The places of the way are 0, 1, 2 (between tt and t) and 3 (within tt): t leads from 0 to 3, to 2, to 1.
PAPER = asked(("letter", "t", 0, 3), asked(("letter", "t", 3, 2), asked(("letter", "t", 2, 1), asked(
    ("letter", "t", 0, 2), asked(T01, ("held",), ("broken", 0, 0, 1)), ("broken", 0, 0, 2)), ("off", 2)), ("off", 1)), ("off", 0))


class Claims(Case):
    def bad(self, error, told, claim):
        for call, first, more in CALLS:
            self.fails(error, told, call, first, claim, *more)

    def test_right_ones(self):
        for claim in (CLAIM, (R, R), (("rest", R), ("rest", ("joined", R, R))), (RS, ("walked", ("then", R, S))),
                      (("joined", T, TT), ("closed", ("rest", T)))):
            self.assertIs(self.unchanged(check_law, FRAME, claim), None)

    def test_wrong_ones(self):
        for value in ODD_VALUES + [[T, T], (T,), (T, T, T), "tt", {0: T, 1: T}]:
            if not isinstance(value, tuple) or len(value) != 2:
                self.bad(BadTerm, {"path": ()}, value)
            self.bad(BadTerm, {"path": (0,)}, (value, None))
            self.bad(BadTerm, {"path": (0, 1, 0)}, (("cut", T, ("rest", value)), value))
            self.bad(BadTerm, {"path": (1, 0)}, (("closed", T), ("turned", value)))
        self.bad(BadTerm, {"path": (0,)}, (("then", R, R), ("letter", "q")))
        self.bad(BadTerm, {"path": (1, 1)}, (("rest", TT), ("cut", T, ("closed", R))))
        for term in (("closed", T), ("walked", T), ("rest", TT), ("joined", T, ("then", T, ("closed", T)))):
            self.bad(NotShort, {}, (term, ("rest", RS)))
            self.bad(NotShort, {}, (term, R))
        self.bad(NotKept, {"number": 0}, (T, ("rest", TT)))
        self.bad(NotKept, {"number": 0}, (R, ("closed", ("rest", ("closed", T)))))
        self.bad(MixedEnds, {"number": 0}, (R, S))
        self.bad(MixedEnds, {"number": 0}, (TT, ("walked", U)))

    def test_ways(self):
        book = Book(TOTAL, [(T, T)])
        claim = (("joined", T, RS), T)
        self.assertEqual(self.unchanged(ways_of_law, book, claim), [
            (("a", "a", "b", "b"), ((T, 0, 1), (R, 0, 2), (R, 1, 3))),
            (("a", "a", "b", "b", "b"), ((R, 0, 2), (S, 2, 1), (R, 0, 3), (R, 1, 4)))])
        self.assertEqual(self.unchanged(bound, book, claim), 5)
        self.assertEqual(bound(THROUGH, (T, T)), 2)
        self.assertEqual(bound(Book(TOTAL, []), (("joined", RS, T), T)), 5)
        self.assertEqual(ways_of_law(THROUGH, CLAIM), ways(FRAME, CLAIM[0]))
        self.told_anew(ways_of_law, book, claim)
        chance = seeded(101)
        for _ in range(60):
            term = chance_term(chance, ("a", "b"), 4, SHORT)
            found = [made(book, way) for way in ways(TOTAL, term)]
            self.assertEqual(ways_of_law(book, (term, R)), found)
            self.assertEqual(bound(book, (term, R)), max(len(way[0]) for way in found))


class LetBy(Case):
    def test_examples(self):
        def let(branch, leaf):
            return self.unchanged(is_let_by, THROUGH, CLAIM, 0, branch, leaf)
        so = [(("letter", "t", 0, 3), True), (("letter", "t", 3, 2), True)]
        self.assertIs(let([(T01, True), (T01, False)], ("clash",)), True)
        self.assertIs(let([(T01, True)], ("clash",)), False)
        self.assertIs(let([(("letter", "t", 3, 2), False)], ("off", 1)), True)
        self.assertIs(let([(("letter", "t", 3, 2), False)], ("off", 0)), False)
        self.assertIs(let([], ("off", 0)), False)
        self.assertIs(let(so + [(T02, False)], ("broken", 0, 0, 2)), True)
        self.assertIs(let(so, ("broken", 0, 0, 2)), False)
        self.assertIs(let(so + [(T02, False)], ("broken", 0, 0, 1)), False)
        self.assertIs(let(so + [(T02, False)], ("broken", 1, 0, 2)), False)
        self.assertIs(let([(T01, True)], ("held",)), True)
        self.assertIs(let([(T01, False)], ("held",)), False)
        # Below a branch that clashes all is as it is told.
        self.assertIs(let([(T01, True), (T01, False)], ("held",)), True)
        self.assertIs(let([(("letter", "t", 3, 2), False), (("letter", "t", 3, 2), True)], ("off", 1)), False)

    def test_no_leaves(self):
        branch = [(T01, False), (T01, True), (T02, False)]
        wrong = ODD_VALUES + [["clash"], ("clash", 0), ("held", ()), ("off",), ("off", 3), ("off", -1), ("off", True), ("off", "0"),
                              ("broken", 0, 0), ("broken", 2, 0, 0), ("broken", 0, 4, 0), ("broken", 0, 0, -1), ("holds",),
                              ("broken", 0, -1, 2), ("broken", 0, -1, 5), ("broken", -2, 0, 1),
                              ("broken", False, 0, 1), ("broken", 0, 0, True), ("broken", 0, None, 1), asked(T01, ("held",), ("held",)),
                              (("clash",),), "clash", ("off", [0]), (["clash"],), ({},)]
        for leaf in wrong:
            self.assertIs(self.unchanged(is_let_by, THROUGH, CLAIM, 0, branch, leaf), False)

    def test_wrong_branches(self):
        for leaf in [("clash",), None, 7, ("off", True)]:
            for entry in (None, (T01, 1), (T01, 0), (T01, None), [T01, True], (("same", 0, 0), True), (("same", 1, 0), True),
                          (("same", False, 1), True), (("letter", "r", 0, 1), True), (T01,)):
                self.fails(BadPaper, {}, is_let_by, THROUGH, CLAIM, 0, [(T01, True), entry], leaf)

    def test_places_of_its_ends(self):
        book = Book(FRAME, [(("all", "a", "b"), R), (("walked", U), ("none", "b", "b"))])
        claim = (R, ("none", "a", "b"))
        self.assertIs(is_let_by(book, claim, 0, [(("letter", "r", 0, 1), False)], ("broken", 0, 0, 1)), True)
        for leaf in (("broken", 0, 1, 0), ("broken", 0, 0, 0), ("broken", 0, 1, 1), ("broken", 1, 0, 0), ("broken", 1, 0, 1)):
            self.assertIs(is_let_by(book, claim, 0, [(("letter", "r", 0, 1), False)], leaf), False)
        self.assertIs(is_let_by(book, claim, 0, [], ("broken", 1, 1, 1)), True)

    def test_as_it_is_meant(self):
        chance, counts = seeded(102), {}
        for _ in range(250):
            book = chance_book(chance)
            ends = (chance.choice("ab"), chance.choice("ab"))
            claim = (chance_term(chance, ends, 3, SHORT), chance_term(chance, ends, 4, (KEPT,)))
            number = chance.randrange(len(ways_of_law(book, claim)))
            way = ways_of_law(book, claim)[number]
            if len(way[0]) > 6:
                continue
            branch = chance_branch(chance, atoms_of(book.frame(), way), 14)
            tries = [("clash",), ("held",)] + [("off", k) for k in range(len(way[1]))]
            tries += [("broken", n, i, j) for n in range(len(book)) for i in range(len(way[0])) for j in range(len(way[0]))]
            for leaf in tries:
                right = is_leaf_let_by(book, claim, way, branch, leaf)
                counts[leaf[0], right] = counts.get((leaf[0], right), 0) + 1
                self.assertIs(is_let_by(book, claim, number, branch, leaf), right, (way, branch, leaf))
        self.assertEqual(len(counts), 8)
        self.assertGreater(min(counts.values()), 10, counts)


class Papers(Case):
    def wrong(self, paper, found, book=THROUGH, claim=CLAIM):
        self.assertEqual(self.unchanged(first_wrong, book, claim, 0, paper), found)

    def test_right_ones(self):
        self.wrong(PAPER, None)
        self.wrong(("held",), None, claim=(T, ("joined", ("other", "a"), ("walked", ("all", "a", "a")))))
        self.wrong(asked(T01, asked(T01, ("held",), ("clash",)), ("off", 0)), None, claim=(T, T))
        # A case may ask for what is known, also below a branch that clashes.
        self.wrong(asked(T01, asked(T01, asked(("same", 0, 1), ("held",), ("held",)), asked(T01, ("clash",), ("clash",))),
                         asked(T01, ("held",), ("off", 0))), None, claim=(T, T))
        self.wrong(asked(T01, ("held",), asked(T01, asked(("same", 0, 1), ("clash",), ("held",)), ("off", 0))), None, claim=(T, T))

    def test_forms(self):
        wrong = ODD_VALUES + [list(PAPER), PAPER[:3], (*PAPER, ("held",)), ("Case", *PAPER[1:]), ["held"], ("held", 0), ("clash", None),
                              ("off",), ("off", True), ("off", "1"), ("off", None), ("broken", 0, 0), ("broken", 0, 0, False),
                              ("broken", 0, (), 1), ("off", 0, 0), ("case",), ("case", T01), nested("case", "x", 3), "case",
                              ("case", T01, ("held",)), (("case",), T01, ("held",), ("held",)), 7]
        for value in wrong:
            self.wrong(value, ((), "form"))
            self.wrong(asked(T01, ("held",), value), ((1,), "form"))
            self.wrong(asked(T01, asked(T02, ("held",), value), value), ((0, 1), "form"))

    def test_atoms(self):
        atoms = ODD_VALUES + [("letter", "t", 0, 4), ("letter", "r", 0, 1), ("letter", "t", 0, True), ("same", 0, 0), ("same", 1, 0),
                              ("same", False, 1), ["same", 0, 1], ("same", 0, 1, 2), ("letter", "t", -1, 0), ("letter", [], 0, 1)]
        for atom in atoms:
            self.wrong(asked(atom, None, None), ((), "atom"))
            self.wrong(asked(T01, ("held",), asked(atom, ("held",), ("held",))), ((1,), "atom"))

    def test_leaves_not_let_by(self):
        for leaf, word in ((("clash",), "clash"), (("off", 0), "off"), (("off", 3), "off"), (("off", -1), "off"), (("held",), "held"),
                           (("broken", 0, 0, 1), "broken"), (("broken", 2, 0, 0), "broken"), (("broken", -1, 0, 0), "broken"),
                           (("broken", 0, 4, 0), "broken"), (("broken", 0, 0, 10 ** 30), "broken"), (("off", 10 ** 30), "off")):
            self.wrong(leaf, ((), word))
            self.wrong(asked(T01, ("held",), leaf), ((1,), word))
        self.wrong(("broken", 0, 0, 0), ((), "broken"), Book(FRAME, []))

    def test_order(self):
        # Each node before its own nodes, and yes before no.
        bad = ("clash",)
        self.wrong(asked(None, None, None), ((), "atom"))
        self.wrong(asked(T02, asked(T01, bad, None), None), ((0, 0), "clash"))
        self.wrong(asked(T02, asked(T01, ("held",), asked(("same", 1, 0), bad, bad)), None), ((0, 1), "atom"))
        self.wrong(asked(T02, asked(T01, ("held",), ("off", 0)), None), ((0, 1), "off"))
        self.wrong(asked(T01, ("held",), asked(T02, ("held",), None)), ((1, 0), "held"))

    def test_deep_ones(self):
        claim = (T, T)
        deep = ("held",)
        for _ in range(148):
            deep = asked(T01, deep, ("clash",))
        self.wrong(asked(T01, deep, ("off", 0)), None, claim=claim)
        self.assertEqual(weeded(THROUGH, claim, 0, asked(T01, deep, ("off", 0))), asked(T01, ("held",), ("off", 0)))
        self.assertEqual(len(leaves(deep)), 149)
        odd = None
        for _ in range(149):
            odd = (odd,)
        self.wrong(odd, ((), "form"))

    def test_leaves(self):
        found = self.unchanged(leaves, PAPER)
        t03, t32, t21 = [("letter", "t", *places) for places in ((0, 3), (3, 2), (2, 1))]
        so = [(t03, True), (t32, True), (t21, True), (T02, True), (T01, True)]
        self.assertEqual(found, [
            ((0, 0, 0, 0, 0), so, ("held",)), ((0, 0, 0, 0, 1), so[:4] + [(T01, False)], ("broken", 0, 0, 1)),
            ((0, 0, 0, 1), so[:3] + [(T02, False)], ("broken", 0, 0, 2)), ((0, 0, 1), so[:2] + [(t21, False)], ("off", 2)),
            ((0, 1), so[:1] + [(t32, False)], ("off", 1)), ((1,), [(t03, False)], ("off", 0))])
        self.assertEqual(leaves(("held",)), [((), [], ("held",))])
        self.told_anew(leaves, PAPER)
        for path, branch, leaf in found:
            self.assertIs(is_let_by(THROUGH, CLAIM, 0, branch, leaf), True)


class Weeded(Case):
    def test_examples(self):
        def weed(paper, claim=(T, T), book=THROUGH):
            return self.unchanged(weeded, book, claim, 0, paper)
        plain = asked(T01, ("held",), ("off", 0))
        self.assertEqual(weeded(THROUGH, CLAIM, 0, PAPER), PAPER)
        self.assertEqual(weed(plain), plain)
        self.assertEqual(weed(asked(T01, asked(T01, ("held",), ("clash",)), asked(T01, ("held",), ("off", 0)))), plain)
        # Answers that are known by classes.
        t10, t11, same = ("letter", "t", 1, 0), ("letter", "t", 1, 1), ("same", 0, 1)
        paper = asked(same, asked(T01, asked(t11, asked(same, ("held",), ("clash",)), ("clash",)), asked(t10, ("clash",), ("off", 0))), plain)
        self.assertEqual(weed(paper), asked(same, plain, plain))
        paper = asked(same, plain, asked(same, ("clash",), plain))
        self.assertEqual(weed(paper), asked(same, plain, plain))
        # Both answers are known only where the branch clashes.
        paper = asked(T01, asked(same, asked(t10, ("held",), asked(t10, ("held",), ("clash",))), ("held",)), ("off", 0))
        self.assertEqual(weed(paper), asked(T01, asked(same, ("held",), ("held",)), ("off", 0)))

    def test_both_answers(self):
        way_claim = (("then", T, T), ("all", "a", "a"))
        s02, s12, s01 = ("same", 0, 2), ("same", 1, 2), ("same", 0, 1)
        t02, t12 = ("letter", "t", 0, 2), ("letter", "t", 1, 2)
        inner = asked(s01, asked(t12, ("held",), ("clash",)), ("held",))
        paper = asked(t02, asked(t12, ("held",), inner), ("held",))
        # t is so at 0, 2 and not so at 1, 2; where 0 and 1 are one, the last case has both answers.
        self.assertEqual(weeded(THROUGH, way_claim, 0, paper),
                         asked(t02, asked(t12, ("held",), asked(s01, ("clash",), ("held",))), ("held",)))
        paper = asked(s02, asked(s12, asked(s01, ("held",), ("held",)), ("held",)), ("held",))
        self.assertEqual(weeded(THROUGH, way_claim, 0, paper), asked(s02, asked(s12, ("held",), ("held",)), ("held",)))
        paper = asked(s02, asked(s12, ("held",), asked(s01, asked(s12, ("held",), ("held",)), ("held",))), ("held",))
        self.assertEqual(weeded(THROUGH, way_claim, 0, paper), asked(s02, asked(s12, ("held",), ("held",)), ("held",)))
        # A case that is not known stays, also below a branch that clashes.
        paper = asked(t02, ("held",), asked(s02, ("held",), asked(t12, ("held",), ("held",))))
        self.assertEqual(weeded(THROUGH, way_claim, 0, paper), paper)

    def test_wrong_papers(self):
        for value in ODD_VALUES + [PAPER[:3], ("held",), asked(T01, ("held",), ("held",)), asked(None, PAPER, PAPER), list(PAPER)]:
            self.fails(BadPaper, {}, weeded, THROUGH, CLAIM, 0, value)

    def test_nothing_known_is_asked(self):
        chance, count = seeded(103), 0
        for _ in range(150):
            book = Book(FRAME, chance_premises(chance, 2))
            claim = (chance_term(chance, ("a", "b"), 3, SHORT), chance_term(chance, ("a", "b"), 3, (KEPT,)))
            for number, way in enumerate(ways_of_law(book, claim)):
                answer = decide_way(book, claim, number)
                if answer[0] == "fails" or len(way[0]) > 5:
                    continue
                idle = padded(chance, atoms_of(FRAME, way), answer[1], 3)
                if first_wrong(book, claim, number, idle) is not None:
                    # Below a branch that clashes, a leaf other than clash may be wrong.
                    continue
                paper = weeded(book, claim, number, idle)
                self.assertIs(first_wrong(book, claim, number, paper), None)
                self.assertEqual(weeded(book, claim, number, paper), paper)
                count += paper != idle
                self.assertFalse(any(self.is_known(way, branch, atom) for branch, atom in cases(paper)))
        self.assertGreater(count, 30)

    def is_known(self, way, branch, atom):
        known = Known(FRAME, way, branch)
        if atom[0] == "letter":
            return known.surely(("letter", atom[1]), *atom[2:]) != "open"
        return known.surely(("same", way[0][atom[1]]), *atom[1:]) != "open"


def cases(paper, branch=()):
    """The branches and atoms of all cases."""
    if paper[0] == "case":
        yield branch, paper[1]
        yield from cases(paper[2], (*branch, (paper[1], True)))
        yield from cases(paper[3], (*branch, (paper[1], False)))


def padded(chance, atoms, paper, depth):
    """A paper with more cases than are needed."""
    if depth and chance.random() < 0.7:
        return asked(chance.choice(atoms), padded(chance, atoms, paper, depth - 1), padded(chance, atoms, paper, depth - 1))
    return paper if paper[0] != "case" else asked(paper[1], *[padded(chance, atoms, part, min(depth, 1)) for part in paper[2:]])


if __name__ == "__main__":
    unittest.main()
