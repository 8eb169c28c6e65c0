"""Atoms, and what is known by a branch (S6.2 to S6.5, S6.8)."""

import unittest

from pairlaws.errors import BadPaper
from pairlaws.frames import Frame
from pairlaws.known import Known, atoms_of, plain_world
from pairlaws.ways import ways
from pairlaws.worths import worth
from tests.casesupport import Branch, chance_branch, seeded
from tests.support import ODD_VALUES, Case, written
from tests.termsupport import FLAT, FRAME, KEPT, R, S, SHORT, T, U, chance_term

WAY = (("a", "b", "a", "b", "a"), ())
SMALL = Frame(["b", "a"], [("q", "b", "a"), ("l", "a", "a")], [])
# Atoms that are none: of other letters and sorts, in another order, with other numbers.
NO_ATOMS = [("letter", "r", 0, 0), ("letter", "r", 1, 0), ("letter", "q", 0, 1), ("letter", "r", 0, 5), ("letter", "r", -1, 1),
            ("same", 0, 0), ("same", 2, 0), ("same", 0, 1), ("same", 0, 5), ("same", 0, True), ("same", False, 2),
            ("letter", "r", 0, True), ("letter", "r", False, 1), ["same", 0, 2], ("same", 0), ("same", 0, 2, 4), ("other", 0, 2),
            ("letter", "r", 0), ("letter", "r", 0, 1, 1), ("letter", ["r"], 0, 1), ("letter", True, 0, 1), ("same", "0", "2"),
            (True, 0, 2), ("same", None, 2)]


def several(count, seed, most=8):
    """Ways, branches, and terms' places drawn at chance."""
    chance = seeded(seed)
    for _ in range(count):
        places = chance.randint(2, 5)
        way = (tuple(chance.choice("ab") for _ in range(places)), ())
        yield chance, way, chance_branch(chance, atoms_of(FRAME, way), most)


class Atoms(Case):
    def test_example(self):
        way = (("a", "b", "a"), ((("same", "a"), 0, 2),))
        self.assertEqual(self.unchanged(atoms_of, SMALL, way), [
            ("letter", "q", 1, 0), ("letter", "q", 1, 2), ("letter", "l", 0, 0), ("letter", "l", 0, 2), ("letter", "l", 2, 0),
            ("letter", "l", 2, 2), ("same", 0, 2)])
        self.assertEqual(atoms_of(SMALL, (("b", "b", "b"), ())), [("same", 0, 1), ("same", 0, 2), ("same", 1, 2)])
        self.assertEqual(atoms_of(Frame(["a", "b"], [], []), (("a", "b"), ())), [])
        self.assertEqual([atom[1:] for atom in atoms_of(FRAME, WAY) if atom[0] == "same"], [(0, 2), (0, 4), (1, 3), (2, 4)])
        self.told_anew(atoms_of, SMALL, way)


class Branches(Case):
    def test_wrong_branches(self):
        right = (("same", 0, 2), True)
        entries = ODD_VALUES + [(atom, True) for atom in NO_ATOMS + ODD_VALUES] + [list(right), (right[0],), (*right, True)]
        entries += [(right[0], answer) for answer in ODD_VALUES if answer is not True and answer is not False] + [right[::-1]]
        for entry in entries:
            for call in (Known, plain_world):
                self.fails(BadPaper, {}, call, FRAME, WAY, [entry])
                self.fails(BadPaper, {}, call, FRAME, WAY, [right, entry, right])
        self.unchanged(Known, FRAME, WAY, [right, right])
        self.assertEqual(Known(FRAME, WAY, (right,)).classes(), [[0, 2], [1], [3], [4]])

    def test_nothing_is_kept(self):
        branch = [(("same", 0, 2), True)]
        known = Known(FRAME, WAY, branch)
        branch.append((("same", 0, 4), True))
        self.assertEqual(known.classes(), [[0, 2], [1], [3], [4]])
        self.told_anew(known.classes)

    def test_classes(self):
        def classes(*pairs):
            return Known(FRAME, WAY, [(("same", *pair), True) for pair in pairs]).classes()
        self.assertEqual(classes(), [[0], [1], [2], [3], [4]])
        self.assertEqual(classes((2, 4), (0, 4)), [[0, 2, 4], [1], [3]])
        self.assertEqual(classes((1, 3), (0, 4), (0, 4)), [[0, 4], [1, 3], [2]])
        self.assertEqual(Known(FRAME, WAY, [(("same", 0, 2), False)]).classes(), [[0], [1], [2], [3], [4]])

    def test_clashes(self):
        def clash(*branch):
            return Known(FRAME, WAY, list(branch)).has_clash()
        r01, r21, r03 = [("letter", "r", *places) for places in ((0, 1), (2, 1), (0, 3))]
        for branch, right in (
                ((), False), (((r01, True), (r01, True)), False), (((r01, True), (r01, False)), True),
                (((r01, True), (r21, False)), False), (((r01, True), (r21, False), (("same", 0, 2), True)), True),
                (((r01, False), (("same", 0, 2), True), (r21, True)), True), (((r01, True), (r03, False)), False),
                (((r01, True), (r03, False), (("same", 1, 3), True)), True),
                (((("same", 0, 2), False), (("same", 0, 2), True)), True),
                (((("same", 0, 2), True), (("same", 2, 4), True), (("same", 0, 4), False)), True),
                (((("same", 0, 2), True), (("same", 2, 4), False), (("same", 0, 4), False)), False),
                (((("letter", "t", 0, 2), True), (("letter", "t", 2, 0), False)), False),
                (((("letter", "t", 0, 2), True), (("letter", "t", 2, 0), False), (("same", 0, 2), True)), True)):
            self.assertIs(clash(*branch), right, branch)

    def test_values(self):
        known = Known(FRAME, WAY, [(("letter", "r", 0, 1), True), (("letter", "r", 2, 3), False), (("same", 0, 2), True),
                                   (("same", 2, 4), False)])
        for term, i, j, value in (
                (R, 2, 1, "yes"), (R, 0, 3, "no"), (R, 4, 1, "open"), (("same", "a"), 0, 2, "yes"), (("same", "a"), 0, 4, "no"),
                (("same", "a"), 4, 2, "no"), (("same", "b"), 1, 3, "open"), (("same", "b"), 3, 3, "yes"), (("other", "a"), 0, 4, "yes"),
                (("other", "a"), 2, 2, "no"), (("none", "a", "b"), 0, 1, "no"), (("all", "b", "b"), 3, 1, "yes"),
                (("rest", R), 2, 1, "no"), (("rest", R), 4, 1, "open"), (("turned", R), 1, 2, "yes"), (("turned", R), 3, 4, "open"),
                (("joined", R, ("rest", R)), 4, 1, "open"), (("cut", R, ("rest", R)), 4, 1, "open"),
                (("joined", R, ("turned", S)), 0, 1, "yes"), (("joined", R, ("turned", S)), 0, 3, "open"),
                (("cut", R, ("turned", S)), 0, 3, "no"), (("cut", R, ("turned", S)), 0, 1, "open")):
            self.assertEqual(known.surely(term, i, j), value, (term, i, j))

    def test_known_both_ways(self):
        known = Known(FRAME, WAY, [(("letter", "t", 0, 2), True), (("letter", "t", 0, 2), False), (("same", 0, 4), True),
                                   (("same", 0, 4), False)])
        self.assertEqual((known.surely(T, 0, 2), known.surely(("rest", T), 4, 2)), ("yes", "no"))
        self.assertEqual((known.surely(("same", "a"), 0, 4), known.surely(("other", "a"), 4, 0)), ("yes", "no"))
        self.assertEqual(known.surely(("cut", T, ("rest", T)), 0, 2), "no")
        self.assertIs(known.surely_so(("then", T, ("rest", T)), 0, 2), False)

    def test_surely_so(self):
        known = Known(FRAME, WAY, [(("letter", "t", 0, 2), True), (("letter", "t", 4, 4), False), (("letter", "r", 2, 1), True),
                                   (("same", 1, 3), True)])
        for term, i, j, so in (
                (T, 0, 2, True), (("rest", T), 4, 4, True), (("rest", T), 0, 4, False), (("then", T, R), 0, 3, True),
                (("then", T, T), 0, 2, False), (("turned", ("then", T, R)), 1, 0, True), (("closed", T), 0, 2, True),
                (("closed", T), 0, 0, False), (("walked", T), 0, 0, True), (("walked", U), 1, 3, True), (("walked", U), 1, 1, True),
                (("closed", U), 1, 3, False), (("closed", ("then", R, ("turned", R))), 2, 2, True),
                (("joined", ("then", T, T), ("then", T, ("same", "a"))), 0, 2, True),
                (("cut", ("then", T, ("same", "a")), T), 0, 2, True), (("cut", ("then", T, T), T), 0, 2, False),
                (("then", ("rest", T), ("rest", T)), 4, 4, True)):
            self.assertIs(known.surely_so(term, i, j), so, (term, i, j))

    def test_as_it_is_meant(self):
        for chance, way, branch in several(250, 91, 10):
            known, right = Known(FRAME, way, branch), Branch(FRAME, way, branch)
            self.assertIs(known.has_clash(), right.clashes())
            self.assertEqual(known.classes(), sorted([
                [j for j in range(len(way[0])) if right.one(i, j)] for i in range(len(way[0]))
                if not any(right.one(i, j) for j in range(i))]))
            for _ in range(12):
                i, j = chance.randrange(len(way[0])), chance.randrange(len(way[0]))
                ends = (way[0][i], way[0][j])
                flat, kept = chance_term(chance, ends, 4, FLAT), chance_term(chance, ends, 4, (KEPT,))
                self.assertEqual(known.surely(flat, i, j), right.value(flat, i, j))
                self.assertIs(known.surely_so(kept, i, j), right.so(kept, i, j), (way, branch, kept, i, j))

    def test_it_stays_so(self):
        # What is surely so stays so with more answers, as long as they do not clash.
        for chance, way, branch in several(100, 92, 6):
            atoms = atoms_of(FRAME, way)
            longer = branch + chance_branch(chance, atoms, 4)
            if Known(FRAME, way, longer).has_clash():
                continue
            for _ in range(10):
                i, j = chance.randrange(len(way[0])), chance.randrange(len(way[0]))
                term = chance_term(chance, (way[0][i], way[0][j]), 4, (KEPT,))
                if Known(FRAME, way, branch).surely_so(term, i, j):
                    self.assertTrue(Known(FRAME, way, longer).surely_so(term, i, j))

    def test_at_the_limit(self):
        way = (("a",) * 8, ())
        known = Known(FRAME, way, [(("letter", "t", at, at + 1), True) for at in range(7)])
        long = T
        for _ in range(6):
            long = ("then", long, T)
        self.assertIs(known.surely_so(long, 0, 7), True)
        self.assertIs(known.surely_so(("then", long, T), 0, 7), False)
        self.assertIs(known.surely_so(("closed", T), 0, 7), True)
        self.assertIs(known.surely_so(("closed", T), 7, 0), False)


class PlainWorld(Case):
    def test_example(self):
        branch = [(("same", 2, 4), True), (("letter", "r", 4, 3), True), (("letter", "t", 0, 2), True),
                  (("letter", "r", 0, 1), False), (("letter", "t", 2, 4), True), (("same", 1, 3), False)]
        world, pair = self.unchanged(plain_world, FRAME, WAY, branch)
        self.assertEqual(written(pair), written(("p0", "p1")))
        self.assertEqual(world.told(), ({"a": ["p0", "p2"], "b": ["p1", "p3"]}, {
            "r": [("p2", "p3")], "s": [], "t": [("p0", "p2"), ("p2", "p2")], "u": []}))
        way = (("a", "a", "a"), ())
        self.assertEqual(plain_world(FRAME, way, [(("same", 0, 1), True)])[1], ("p0", "p0"))
        world, pair = plain_world(FRAME, way, [(("same", 1, 2), True)])
        self.assertEqual((world.told()[0], pair), ({"a": ["p0", "p1"], "b": []}, ("p0", "p1")))
        self.assertEqual(plain_world(FRAME, way, [(("same", 0, 2), True)])[0].things("a"), ["p0", "p1"])

    def test_more_than_ten_places(self):
        self.assertEqual(plain_world(FRAME, (("a",) * 12, ()), [])[0].things("a"), [f"p{at}" for at in range(12)])

    def test_clash(self):
        atom = ("letter", "r", 0, 1)
        self.fails(BadPaper, {}, plain_world, FRAME, WAY, [(atom, True), (atom, False)])
        self.fails(BadPaper, {}, plain_world, FRAME, WAY, [(("same", 0, 2), False), (("same", 0, 2), True)])

    def test_as_it_is_meant(self):
        count = 0
        for chance, way, branch in several(120, 93):
            right = Branch(FRAME, way, branch)
            if right.clashes():
                self.fails(BadPaper, {}, plain_world, FRAME, way, branch)
                continue
            count += 1
            world, pair = plain_world(FRAME, way, branch)
            least = [min(j for j in range(len(way[0])) if right.one(i, j)) for i in range(len(way[0]))]
            self.assertEqual(pair, (f"p{least[0]}", f"p{least[1]}"))
            for sort in "ab":
                self.assertEqual(world.things(sort), [f"p{at}" for at in sorted(set(least)) if way[0][at] == sort])
            for name, first, second in FRAME.letters():
                self.assertEqual(set(world.relation(name).pairs()), {
                    (f"p{least[i]}", f"p{least[j]}") for i in range(len(least)) for j in range(len(least))
                    if right.known(name, i, j, True)})
            # What is surely so is so in the plain world, where what is open is false.
            for _ in range(8):
                i, j = chance.randrange(len(least)), chance.randrange(len(least))
                term = chance_term(chance, (way[0][i], way[0][j]), 4, (KEPT,))
                if right.so(term, i, j):
                    self.assertIn((f"p{least[i]}", f"p{least[j]}"), worth(world, term))
        self.assertGreater(count, 60)

    def test_ways_of_terms(self):
        chance = seeded(94)
        for _ in range(40):
            term = chance_term(chance, ("a", "b"), 4, SHORT)
            for way in ways(FRAME, term)[:2]:
                branch = [(("letter", one[1], i, j), True) for one, i, j in way[1] if one[0] == "letter"]
                if len(branch) == len(way[1]):
                    world, pair = plain_world(FRAME, way, branch)
                    self.assertIn(pair, worth(world, term))


if __name__ == "__main__":
    unittest.main()
