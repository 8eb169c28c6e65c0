"""Ways of short terms, and their made places (S5.1, S5.2)."""

import unittest

from pairlaws.books import Book
from pairlaws.errors import BadTerm, NotShort
from pairlaws.forms import is_flat
from pairlaws.frames import Frame
from pairlaws.terms import ends_of
from pairlaws.ways import is_way, made, turned_way, ways
from tests.support import ODD_VALUES, Case
from tests.termsupport import FRAME, R, S, SHORT, T, U, chance_terms

TOTAL = Frame(["a", "b", "c"], [("r", "a", "b"), ("s", "c", "b"), ("q", "a", "b"), ("t", "a", "a")],
              [("s", "back"), ("r", "on"), ("q", "on")])
RS = ("then", R, S)


class Ways(Case):
    def test_flat(self):
        for term, ends in ((R, "ab"), (("joined", R, ("rest", R)), "ab"), (("turned", ("cut", R, R)), "ba"),
                           (("none", "a", "a"), "aa"), (("rest", ("turned", S)), "ab"), (("other", "b"), "bb")):
            self.assertEqual(self.unchanged(ways, FRAME, term), [(tuple(ends), ((term, 0, 1),))])

    def test_examples(self):
        self.assertEqual(ways(FRAME, RS), [(("a", "a", "b"), ((R, 0, 2), (S, 2, 1)))])
        self.assertEqual(ways(FRAME, ("turned", ("then", R, U))), [(("b", "a", "b"), ((R, 1, 2), (U, 2, 0)))])
        self.assertEqual(ways(FRAME, ("joined", T, RS)), [(("a", "a"), ((T, 0, 1),)), (("a", "a", "b"), ((R, 0, 2), (S, 2, 1)))])
        self.assertEqual(ways(FRAME, ("joined", RS, RS)), ways(FRAME, RS) * 2)
        self.assertEqual(ways(FRAME, ("cut", RS, T)), [(("a", "a", "b"), ((R, 0, 2), (S, 2, 1), (T, 0, 1)))])
        self.assertEqual(ways(FRAME, ("cut", RS, ("then", T, T))), [
            (("a", "a", "b", "a"), ((R, 0, 2), (S, 2, 1), (T, 0, 3), (T, 3, 1)))])
        # Places of the first part before those of the second one.
        one, other = ("then", T, RS), ("then", ("then", S, T), R)
        self.assertEqual(ways(FRAME, one), [(("a", "a", "a", "b"), ((T, 0, 2), (R, 2, 3), (S, 3, 1)))])
        self.assertEqual(ways(FRAME, other), [(("b", "b", "a", "a"), ((S, 0, 3), (T, 3, 2), (R, 2, 1)))])
        self.assertEqual(ways(FRAME, ("then", ("then", one, R), other)), [
            (("a", "b", "b", "a", "a", "b", "a", "a"),
             ((T, 0, 4), (R, 4, 5), (S, 5, 3), (R, 3, 2), (S, 2, 7), (T, 7, 6), (R, 6, 1)))])

    def test_order_of_both(self):
        one, other = ("joined", T, RS), ("joined", RS, ("same", "a"))
        for word in ("cut", "then"):
            found = ways(FRAME, (word, one, other))
            self.assertEqual([[mark[0] for mark in way[1]] for way in found],
                             [[T, R, S], [T, ("same", "a")], [R, S, R, S], [R, S, ("same", "a")]])
        self.assertEqual(ways(FRAME, ("turned", one)), [turned_way(way) for way in ways(FRAME, one)])

    def test_wrong_terms(self):
        for value in ODD_VALUES + [("letter", "q"), ["letter", "r"]]:
            self.fails(BadTerm, {"path": ()}, ways, FRAME, value)
            self.fails(BadTerm, {"path": (0, 1)}, ways, FRAME, ("closed", ("cut", T, value)))
        self.fails(BadTerm, {"path": (0,)}, ways, FRAME, ("rest", ("closed", R)))
        for term in (("closed", T), ("walked", T), ("joined", T, ("rest", RS)), ("then", R, ("then", S, ("closed", T))),
                     ("rest", ("closed", T))):
            self.fails(NotShort, {}, ways, FRAME, term)

    def test_all_are_ways(self):
        self.told_anew(ways, FRAME, ("joined", RS, T))
        for ends, term in chance_terms(200, 5, 61, SHORT):
            for way in ways(FRAME, term):
                self.assertIs(is_way(FRAME, way), True)
                self.assertEqual(way[0][:2], ends)
                self.assertTrue(all(is_flat(mark[0]) for mark in way[1]))


class IsWay(Case):
    def test_right(self):
        for way in ((("a", "b"), ()), (("a", "a"), ((T, 0, 0), (T, 1, 0), (T, 1, 0))), (("b", "b"), ((("other", "b"), 1, 1),)),
                    (("a", "b", "a"), ((R, 2, 1), (("turned", S), 0, 1), (("joined", T, ("rest", T)), 2, 0)))):
            self.assertIs(self.unchanged(is_way, FRAME, way), True)

    def test_wrong(self):
        right = (("a", "b", "a"), ((R, 2, 1), (T, 0, 2)))
        self.judged(is_way, (FRAME,), [right])
        for value in ODD_VALUES + [["a", "b"], ("a",), ("a", "q"), ("a", "r"), ("a", ["b"]), ("a", True)]:
            self.assertIs(is_way(FRAME, (value, ())), value == ("a", "b"))
            self.assertIs(is_way(FRAME, (right[0], value)), value == ())
            self.assertIs(is_way(FRAME, (right[0], (value,))), False)
            self.assertIs(is_way(FRAME, (right[0], ((value, 2, 1),))), False)
            if value != 0 or value is False:
                self.assertIs(is_way(FRAME, (right[0], ((R, value, 1),))), value == 2)
            if value != 1 or value is True:
                self.assertIs(is_way(FRAME, (right[0], ((R, 0, value),))), False)
        for marks in ([(R, 0, 1)], ([R, 0, 1],), ((R, 0),), ((R, 0, 1, 2),), ((R, 1, 0),), ((R, 0, 3),), ((R, -1, 1),),
                      ((RS, 0, 2),), ((("closed", T), 0, 2),), ((("then", R, R), 0, 1),), ((T, 0, False),), ((R, 0, "1"),)):
            self.assertIs(is_way(FRAME, (("a", "b", "a"), marks)), False, marks)
        self.assertIs(is_way(FRAME, list(right)), False)
        self.assertIs(is_way(FRAME, (*right, ())), False)

    def test_places_that_are_one(self):
        self.assertIs(is_way(FRAME, (("a", "b"), ((T, 0, 0), (U, 1, 1)))), True)
        self.assertIs(is_way(FRAME, (("a", "b"), ((T, 1, 1),))), False)


class Turned(Case):
    def test_turned_way(self):
        way = (("a", "b", "a"), ((R, 0, 1), (T, 0, 0), (T, 2, 0), (S, 1, 2), (T, 2, 2)))
        self.assertEqual(self.unchanged(turned_way, way),
                         (("b", "a", "a"), ((R, 1, 0), (T, 1, 1), (T, 2, 1), (S, 0, 2), (T, 2, 2))))
        self.assertEqual(turned_way(turned_way(way)), way)
        self.assertEqual(turned_way((("a", "b"), ())), (("b", "a"), ()))
        for _, term in chance_terms(60, 5, 62, SHORT):
            for one in ways(FRAME, term):
                self.assertIs(is_way(FRAME, turned_way(one)), True)
                self.assertEqual(turned_way(turned_way(one)), one)


class Made(Case):
    def test_example(self):
        r, s, q = ("letter", "r"), ("letter", "s"), ("letter", "q")
        book = Book(TOTAL, [])
        # Place 0 makes 2 by r and 3 by q; 2 and 3 make 4 and 5 by s; place 1 makes 6, which comes before these.
        self.assertEqual(self.unchanged(made, book, (("a", "b"), ((r, 0, 1),))), (
            ("a", "b", "b", "b", "c", "c", "c"),
            ((r, 0, 1), (r, 0, 2), (q, 0, 3), (s, 4, 1), (s, 5, 2), (s, 6, 3))))
        self.assertEqual(made(book, (("c", "c"), ())), (("c", "c"), ()))
        self.assertEqual(made(book, (("c", "b", "b"), ((s, 0, 1),))), (("c", "b", "b", "c", "c"), ((s, 0, 1), (s, 3, 1), (s, 4, 2))))
        self.assertEqual(made(Book(FRAME, []), (("a", "b"), ((R, 0, 1),))), (("a", "b"), ((R, 0, 1),)))

    def test_made_twice(self):
        s = ("letter", "s")
        book = Book(TOTAL, [])
        once = made(book, (("b", "b"), ()))
        self.assertEqual(once, (("b", "b", "c", "c"), ((s, 2, 0), (s, 3, 1))))
        self.assertEqual(made(book, once), (("b", "b", "c", "c", "c", "c"), ((s, 2, 0), (s, 3, 1), (s, 4, 0), (s, 5, 1))))

    def test_made_ones_are_ways(self):
        frame = Frame(["a", "b"], FRAME.letters(), [("s", "back"), ("r", "on")])
        for _, term in chance_terms(60, 4, 63, SHORT):
            for way in ways(frame, term):
                longer = made(Book(frame, []), way)
                self.assertIs(is_way(frame, longer), True)
                self.assertEqual(len(longer[0]), len(way[0]) + 2 * way[0].count("a"))
                self.assertEqual(ends_of(frame, longer[1][0][0]), ends_of(frame, way[1][0][0]))


if __name__ == "__main__":
    unittest.main()
