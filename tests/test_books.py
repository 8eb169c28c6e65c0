"""Books and the worlds that obey them (S4.5, S4.6)."""

import random
import unittest

from pairlaws.books import Book, all_broken, first_broken, obeys, with_premise, without_premise
from pairlaws.errors import BadTerm, MixedEnds, MixedFrames, NotFlat, NotKept, NotTold
from pairlaws.frames import Frame
from pairlaws.worlds import World
from pairlaws.worths import worth
from tests.support import ODD_VALUES, Case
from tests.termsupport import FLAT, FRAME, KEPT, R, S, T, chance_term, chance_worlds

THEN = ("then", R, S)
PREMISES = [(("then", T, T), T), (R, ("turned", S)), (("rest", T), ("all", "a", "a"))]
TOTAL = Frame(["a", "b"], [("r", "a", "b"), ("s", "b", "a"), ("t", "a", "a"), ("u", "b", "b")], [("s", "back"), ("r", "on")])


class Made(Case):
    def test_what_it_tells(self):
        book = self.unchanged(Book, FRAME, PREMISES)
        self.assertEqual((book.frame(), book.premises(), len(book)), (FRAME, PREMISES, 3))
        self.assertEqual(Book(FRAME, tuple(PREMISES)), book)
        self.assertEqual((Book(TOTAL, []).premises(), len(Book(TOTAL, []))), ([], 0))
        self.assertEqual(Book(FRAME, [(T, T)] * 3).premises(), [(T, T)] * 3)

    def test_nothing_is_kept(self):
        told = list(PREMISES)
        book = Book(FRAME, told)
        told.clear()
        self.assertEqual(book.premises(), PREMISES)
        self.told_anew(book.premises)

    def test_equality(self):
        book = Book(FRAME, PREMISES)
        self.assertTrue(book == Book(FRAME, list(PREMISES)))
        self.assertTrue(Book(FRAME, []) == Book(FRAME, []))
        for other in [Book(TOTAL, PREMISES), Book(FRAME, PREMISES[:2]), Book(FRAME, PREMISES[::-1]), PREMISES] + ODD_VALUES:
            self.assertFalse(book == other)
            self.assertTrue(book != other)

    def test_kept_and_flat(self):
        walked = ("walked", ("rest", ("joined", T, ("rest", T))))
        self.assertEqual(len(Book(FRAME, [(walked, ("rest", T)), (("closed", ("then", R, S)), ("other", "a"))])), 2)

    def bad(self, error, told, premises):
        self.fails(error, told, Book, FRAME, premises)

    def test_wrong_terms(self):
        for value in ODD_VALUES + [("letter", "q"), ["letter", "r"], ("same", True)]:
            self.bad(BadTerm, {"path": (0, 0)}, [(value, None)])
            self.bad(BadTerm, {"path": (0, 1)}, [(("rest", THEN), value)])
            self.bad(BadTerm, {"path": (1, 0, 0, 1)}, [(T, T), (("closed", ("cut", T, value)), THEN)])
            self.bad(BadTerm, {"path": (2, 1, 0)}, [(T, T), (T, T), (R, ("turned", value))])
        self.bad(BadTerm, {"path": (0, 1)}, [(T, ("then", R, R)), (None, None)])

    def test_wrong_forms(self):
        self.bad(NotKept, {"number": 0}, [(("rest", THEN), THEN)])
        self.bad(NotKept, {"number": 1}, [(T, T), (("closed", ("rest", ("walked", T))), R)])
        self.bad(NotFlat, {"number": 0}, [(R, THEN)])
        self.bad(NotFlat, {"number": 2}, [(T, T), (R, R), (T, ("joined", T, ("rest", ("closed", T))))])
        self.bad(MixedEnds, {"number": 0}, [(R, S)])
        self.bad(MixedEnds, {"number": 1}, [(T, T), (THEN, R)])

    def test_premise_by_premise(self):
        self.bad(MixedEnds, {"number": 0}, [(R, S), (None, None)])
        self.bad(NotFlat, {"number": 0}, [(R, THEN), (("rest", THEN), None)])
        self.bad(NotKept, {"number": 1}, [(T, T), (("rest", THEN), R), (R, S)])

    def test_with_premise(self):
        book = Book(FRAME, PREMISES)
        self.assertEqual(self.unchanged(with_premise, book, R, R), Book(FRAME, PREMISES + [(R, R)]))
        self.assertEqual(len(book), 3)
        self.assertEqual(with_premise(Book(FRAME, []), T, T).premises(), [(T, T)])
        for value in ODD_VALUES:
            self.fails(BadTerm, {"path": (3, 0)}, with_premise, book, value, None)
            self.fails(BadTerm, {"path": (3, 1)}, with_premise, book, R, value)
        self.fails(NotKept, {"number": 3}, with_premise, book, ("rest", THEN), THEN)
        self.fails(NotFlat, {"number": 3}, with_premise, book, R, THEN)
        self.fails(MixedEnds, {"number": 0}, with_premise, Book(FRAME, []), R, S)

    def test_without_premise(self):
        book = Book(FRAME, PREMISES)
        for number in range(3):
            self.assertEqual(self.unchanged(without_premise, book, number).premises(),
                             PREMISES[:number] + PREMISES[number + 1:])
        for value in [value for value in ODD_VALUES if value != 0 and value != 1 or isinstance(value, bool)] + [3, -1, "0"]:
            self.fails(NotTold, {"name": value}, without_premise, book, value)
        self.fails(NotTold, {"name": 0}, without_premise, Book(FRAME, []), 0)


class Obeyed(Case):
    def test_example(self):
        world = World(TOTAL, {"a": ["x", "y", "z"], "b": ["x", "w"]}, {
            "r": [("y", "x")], "s": [("w", "x")], "t": [("y", "x"), ("x", "z"), ("z", "z")], "u": []})
        book = Book(TOTAL, [(("then", T, T), T), (T, T), (R, ("turned", S))])
        faults = [("total", "s", "back", "y"), ("total", "s", "back", "z"), ("total", "r", "on", "x"),
                  ("total", "r", "on", "z"), ("premise", 0, "y", "z"), ("premise", 2, "y", "x")]
        self.assertEqual(self.unchanged(all_broken, book, world), faults)
        self.assertEqual(self.unchanged(first_broken, book, world), faults[0])
        self.assertIs(self.unchanged(obeys, book, world), False)
        free = World(FRAME, *world.told())
        book = Book(FRAME, book.premises())
        self.assertEqual((all_broken(book, free), first_broken(book, free)), (faults[4:], faults[4]))
        self.assertEqual(all_broken(Book(FRAME, []), free), [])
        self.assertIs(obeys(Book(FRAME, []), free), True)
        self.told_anew(all_broken, book, free)

    def test_one_word_of_two_sorts(self):
        world = World(TOTAL, {"a": ["x"], "b": ["x"]}, {"r": [("x", "x")], "s": [], "t": [], "u": []})
        self.assertEqual(all_broken(Book(TOTAL, []), world), [("total", "s", "back", "x")])

    def test_empty_world(self):
        world = World(TOTAL, {"a": [], "b": []}, {"r": [], "s": [], "t": [], "u": []})
        book = Book(TOTAL, [(("all", "a", "a"), ("none", "a", "a"))])
        self.assertEqual((all_broken(book, world), first_broken(book, world), obeys(book, world)), ([], None, True))

    def test_as_it_is_meant(self):
        chance = random.Random(46)
        for world in chance_worlds(80, 47, TOTAL):
            premises = []
            for _ in range(3):
                ends = (chance.choice("ab"), chance.choice("ab"))
                premises.append((chance_term(chance, ends, 4, (KEPT,)), chance_term(chance, ends, 3, FLAT)))
            book, found = Book(TOTAL, premises), []
            found += [("total", "s", "back", y) for y in world.things("a") if not world.relation("s").column(y)]
            found += [("total", "r", "on", x) for x in world.things("a") if not world.relation("r").row(x)]
            for number, (p, q) in enumerate(premises):
                p, q = worth(world, p), worth(world, q)
                found += [("premise", number, *pair) for pair in p.pairs() if pair not in q]
            self.assertEqual(all_broken(book, world), found)
            self.assertEqual((first_broken(book, world), obeys(book, world)), (found[0] if found else None, not found))

    def test_mixed_frames(self):
        world = World(TOTAL, {"a": [], "b": []}, {"r": [], "s": [], "t": [], "u": []})
        for call in (first_broken, all_broken, obeys):
            self.fails(MixedFrames, {}, call, Book(FRAME, PREMISES), world)


if __name__ == "__main__":
    unittest.main()
