"""Premises that hold by other premises (S7.1, S7.2)."""

import itertools
import unittest

from pairlaws.books import Book, without_premise
from pairlaws.deciding import holds
from pairlaws.errors import MixedFrames, NotShort, NotTold
from pairlaws.follows import first_unlike, follows, is_thinned_book, needless_ones, short_premises, thinned_book
from pairlaws.forms import is_short
from tests.casesupport import TOTAL, seeded
from tests.support import ODD_VALUES, Case
from tests.termsupport import FLAT, FRAME, R, S, SHORT, T, U, chance_term

TT = ("then", T, T)
THROUGH, LONG, BOTH, SELF = (TT, T), (("then", TT, T), T), (T, ("turned", T)), (("same", "a"), T)
CLOSED, WALKED = (("closed", T), T), (("walked", T), T)
MIXED = Book(FRAME, [LONG, CLOSED, THROUGH, THROUGH, WALKED, (R, R), (("rest", T), T)])
SHORT_BOOK = Book(FRAME, [LONG, THROUGH, BOTH, (("then", T, ("turned", T)), T), THROUGH])


def chance_books(count, seed):
    chance = seeded(seed)
    for _ in range(count):
        premises = [SELF, THROUGH, LONG, BOTH][:chance.randrange(4)]
        for _ in range(chance.randint(0, 3)):
            ends = (chance.choice("ab"), chance.choice("ab"))
            premises.append((chance_term(chance, ends, 2, SHORT), chance_term(chance, ends, 2, FLAT)))
        chance.shuffle(premises)
        yield chance, Book(chance.choice((FRAME, TOTAL)), premises)


class Follows(Case):
    def test_short_premises(self):
        self.assertEqual(self.unchanged(short_premises, MIXED), [0, 2, 3, 5, 6])
        self.assertEqual(short_premises(Book(FRAME, [])), [])
        self.assertEqual(short_premises(Book(FRAME, [CLOSED, WALKED])), [])
        self.told_anew(short_premises, MIXED)

    def test_follows(self):
        self.assertEqual([self.unchanged(follows, SHORT_BOOK, number) for number in range(5)], [True, True, False, True, True])
        self.assertEqual([follows(MIXED, number) for number in (0, 2, 3, 5, 6)], [True, True, True, True, False])
        # A premise that stands twice holds by itself; one that stands once does not.
        self.assertIs(follows(Book(FRAME, [THROUGH, THROUGH]), 1), True)
        self.assertIs(follows(Book(FRAME, [THROUGH]), 0), False)
        self.assertIs(follows(Book(FRAME, [(R, R)]), 0), True)
        self.assertIs(follows(Book(FRAME, [CLOSED, LONG]), 1), True)
        self.assertIs(follows(Book(TOTAL, [(("same", "a"), ("joined", T, ("rest", T)))]), 0), True)

    def test_totals(self):
        premise = (("then", ("same", "a"), ("all", "a", "b")), R)
        premises = [(("all", "b", "b"), ("same", "b")), premise]
        self.assertIs(follows(Book(TOTAL, premises), 1), True)
        self.assertIs(follows(Book(FRAME, premises), 1), False)

    def test_errors(self):
        for value in ODD_VALUES + [7, -1, "0", "x"]:
            if isinstance(value, bool) or value not in (0, 1):
                self.fails(NotTold, {"name": value}, follows, MIXED, value)
        self.fails(NotTold, {"name": 0}, follows, Book(FRAME, []), 0)
        for number in (1, 4):
            self.fails(NotShort, {}, follows, MIXED, number)

    def test_needless_ones(self):
        self.assertEqual(self.unchanged(needless_ones, MIXED), [0, 2, 3, 5])
        self.assertEqual(needless_ones(SHORT_BOOK), [0, 1, 3, 4])
        self.assertEqual(needless_ones(Book(FRAME, [])), [])
        self.told_anew(needless_ones, MIXED)

    def test_as_it_is_meant(self):
        for _, book in chance_books(40, 121):
            right = [number for number, premise in enumerate(book.premises())
                     if is_short(premise[0]) and holds(without_premise(book, number), premise)]
            self.assertEqual(needless_ones(book), right)
            self.assertEqual([number for number in short_premises(book) if follows(book, number)], right)


class Thinned(Case):
    def right_lists(self, book):
        """All lists that is_thinned_book must take, straight from the definition."""
        premises = book.premises()

        def by(numbers, number):
            return holds(Book(book.frame(), [premises[other] for other in numbers if other != number]), premises[number])
        for count in range(len(premises) + 1):
            for numbers in itertools.combinations(range(len(premises)), count):
                if all(by(numbers, number) != (number in numbers) for number in range(len(premises))):
                    yield list(numbers)

    def test_examples(self):
        self.assertIn(self.unchanged(thinned_book, SHORT_BOOK), ([1, 2], [2, 4], [2, 3]))
        self.assertEqual(thinned_book(Book(FRAME, [])), [])
        self.assertEqual(thinned_book(Book(FRAME, [(R, R), (S, S)])), [])
        self.assertIn(thinned_book(Book(FRAME, [THROUGH, THROUGH])), ([0], [1]))
        self.assertEqual(thinned_book(Book(FRAME, [BOTH, SELF])), [0, 1])
        self.told_anew(thinned_book, SHORT_BOOK)

    def test_judged(self):
        book = Book(FRAME, [LONG, THROUGH, THROUGH, SELF])
        self.judged(is_thinned_book, (book,), [[0, 3], [1, 3], [2, 3], (1, 3), (2, 3)])
        for value in ([3, 1], [1, 1, 3], [1, 2, 3], [1], [3], [0, 1, 3], [1, 3, 4], [-3, 3], [True, 3], ["1", "3"], [[1], 3],
                      {1: 1, 3: 3}, "13", [1, 3, None], [], ()):
            self.assertIs(is_thinned_book(book, value), False)
        self.assertIs(is_thinned_book(Book(FRAME, []), []), True)
        self.assertIs(is_thinned_book(Book(FRAME, []), ()), True)
        self.assertIs(is_thinned_book(Book(FRAME, []), [0]), False)
        self.assertIs(is_thinned_book(Book(FRAME, [BOTH, SELF]), [False, True]), False)
        self.assertIs(is_thinned_book(Book(FRAME, [BOTH, SELF]), [0, 1]), True)

    def test_as_it_is_meant(self):
        for _, book in chance_books(25, 122):
            right = list(self.right_lists(book))
            self.assertIn(thinned_book(book), right)
            for count in range(len(book) + 1):
                for numbers in itertools.permutations(range(len(book)), count):
                    if count < 4:
                        self.assertIs(is_thinned_book(book, list(numbers)), list(numbers) in right)

    def test_not_short(self):
        for premises in ([CLOSED], [THROUGH, WALKED], [WALKED, THROUGH, LONG]):
            self.fails(NotShort, {}, thinned_book, Book(FRAME, premises))
            for value in ([0], None, [7]):
                self.fails(NotShort, {}, is_thinned_book, Book(FRAME, premises), value)


class Unlike(Case):
    def test_examples(self):
        def unlike(some, others):
            return self.unchanged(first_unlike, Book(FRAME, some), Book(FRAME, others))
        self.assertIs(unlike([], []), None)
        self.assertIs(unlike([THROUGH, LONG], [THROUGH]), None)
        self.assertIs(unlike([THROUGH, BOTH], [BOTH, (("then", T, ("turned", T)), T)]), None)
        self.assertEqual(unlike([THROUGH], [LONG, BOTH, SELF]), ("other", 1))
        # For a t with all pairs of same, both premises say that t is transitive.
        self.assertEqual(unlike([SELF, THROUGH, BOTH], [LONG, SELF]), ("book", 2))
        self.assertEqual(unlike([SELF], [THROUGH]), ("other", 0))
        self.assertEqual(unlike([LONG, THROUGH], [LONG]), ("book", 1))
        self.assertIs(unlike([(R, R)], [(U, U), (S, S)]), None)

    def test_errors(self):
        short, long = Book(FRAME, [SELF]), Book(FRAME, [SELF, CLOSED])
        for book, other in ((short, long), (long, short), (long, long), (Book(FRAME, [(R, ("none", "a", "b"))]), long)):
            self.fails(NotShort, {}, first_unlike, book, other)
        for other in (Book(TOTAL, [SELF]), Book(TOTAL, [CLOSED]), Book(TOTAL, [])):
            self.fails(MixedFrames, {}, first_unlike, short, other)
            self.fails(MixedFrames, {}, first_unlike, long, other)

    def test_as_it_is_meant(self):
        found = [book for _, book in chance_books(30, 123) if book.frame() == FRAME]
        for book, other in itertools.product(found[:8], found):
            right = [("other", number) for number, premise in enumerate(other.premises()) if not holds(book, premise)]
            right += [("book", number) for number, premise in enumerate(book.premises()) if not holds(other, premise)]
            self.assertEqual(first_unlike(book, other), right[0] if right else None)


if __name__ == "__main__":
    unittest.main()
