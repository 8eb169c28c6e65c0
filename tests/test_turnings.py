"""Terms put in for letters, claims turned into others, premises that tell kinds (S7.3 to S7.5)."""

import unittest

from pairlaws.books import Book, obeys
from pairlaws.deciding import holds
from pairlaws.errors import BadTerm, MixedEnds, NotFlat, NotFree, NotKept, NotShort, NotSquare, UnknownName
from pairlaws.forms import is_flat, is_kept, is_short
from pairlaws.frames import Frame
from pairlaws.kinds import has_kind
from pairlaws.terms import ends_of
from pairlaws.turnings import book_put_in, defined, law_put_in, premises_of, put_in, turned_laws
from tests.casesupport import TOTAL, all_small_worlds, seeded
from tests.support import ODD_VALUES, Case, written
from tests.termsupport import FLAT, FRAME, KEPT, R, S, SHORT, T, U, chance_term, chance_terms, nested

RS = ("then", R, S)
WORDS = ["one", "apart", "self", "never", "both", "through", "single", "any"]
# Values that are no terms, with the path of the first wrong part.
BAD_TERMS = [(value, ()) for value in ODD_VALUES] + [
    (("letter", "x"), ()), (("letter", True), ()), (["letter", "r"], ()), (("rest", ["letter", "r"]), (0,)),
    (("joined", R, ("letter", "w")), (1,)), (("joined", R, S), ()), (("then", T, ("cut", R, S)), (1,)),
    (("closed", R), ()), (("same", "c"), ()), (("none", "a"), ()), (nested("turned", 0, 150), (0,) * 150)]


def put(term, name, flat):
    """The term with another one put in for a letter, read from the document."""
    if term[0] == "letter":
        return flat if term[1] == name else term
    if term[0] in ("same", "other", "none", "all"):
        return term
    return (term[0], *[put(part, name, flat) for part in term[1:]])


class PutIn(Case):
    def test_examples(self):
        flat = ("rest", ("turned", R))
        for term, right in [
                (S, flat), (R, R), (("same", "a"), ("same", "a")), (("none", "a", "b"), ("none", "a", "b")),
                (("then", S, ("then", R, S)), ("then", flat, ("then", R, flat))),
                (("closed", ("joined", ("then", R, S), T)), ("closed", ("joined", ("then", R, flat), T))),
                (("rest", ("turned", S)), ("rest", ("turned", flat)))]:
            self.assertEqual(self.unchanged(put_in, FRAME, term, "s", flat), right)

    def test_letter_within_its_own_term(self):
        flat = ("joined", R, ("cut", R, ("turned", S)))
        self.assertEqual(put_in(FRAME, ("then", R, ("turned", R)), "r", flat), ("then", flat, ("turned", flat)))
        self.assertEqual(put_in(FRAME, R, "r", R), R)

    def test_sort_of_the_same_name(self):
        frame = Frame(["r"], [("r", "r", "r")], [])
        term = ("joined", ("same", "r"), ("joined", ("letter", "r"), ("all", "r", "r")))
        right = ("joined", ("same", "r"), ("joined", ("other", "r"), ("all", "r", "r")))
        self.assertEqual(put_in(frame, term, "r", ("other", "r")), right)

    def test_as_it_is_meant(self):
        chance = seeded(201)
        for _, term in chance_terms(60, 5, 202):
            name = chance.choice("rstu")
            flat = chance_term(chance, FRAME.ends(name), 3, FLAT)
            self.assertEqual(put_in(FRAME, term, name, flat), put(term, name, flat))

    def test_errors(self):
        for value, path in BAD_TERMS:
            self.fails(BadTerm, {"path": path}, put_in, FRAME, value, "x", 0)
            self.fails(BadTerm, {"path": path}, put_in, FRAME, R, "r", value)
        for value in ODD_VALUES + ["x", "a"]:
            self.fails(UnknownName, {"name": value}, put_in, FRAME, R, value, 0)
        self.fails(BadTerm, {"path": (1,)}, put_in, FRAME, R, "t", ("then", R, 0))
        self.fails(NotFlat, {"number": 0}, put_in, FRAME, R, "t", RS)
        self.fails(NotFlat, {"number": 0}, put_in, FRAME, R, "r", RS)
        self.fails(NotFlat, {"number": 0}, put_in, FRAME, R, "t", ("walked", T))
        self.fails(MixedEnds, {"number": 0}, put_in, FRAME, R, "r", S)
        self.fails(MixedEnds, {"number": 0}, put_in, FRAME, R, "t", U)
        self.fails(MixedEnds, {"number": 0}, put_in, FRAME, T, "r", ("turned", R))


class LawPutIn(Case):
    def test_examples(self):
        flat = ("turned", R)
        self.assertEqual(self.unchanged(law_put_in, FRAME, (RS, T), "s", flat), (("then", R, flat), T))
        self.assertEqual(law_put_in(FRAME, (S, S), "s", flat), (flat, flat))
        # The two terms may be any, also with different ends, closed, or with a rest of what is not flat.
        claim = (("closed", ("then", S, R)), ("rest", ("then", R, S)))
        right = (("closed", ("then", flat, R)), ("rest", ("then", R, flat)))
        self.assertEqual(law_put_in(FRAME, claim, "s", flat), right)

    def test_errors(self):
        for value in [value for value in ODD_VALUES if not (isinstance(value, tuple) and len(value) == 2)] + [[R, R], (R,), (R, R, R)]:
            self.fails(BadTerm, {"path": ()}, law_put_in, FRAME, value, "x", 0)
        for value, path in BAD_TERMS:
            self.fails(BadTerm, {"path": (0, *path)}, law_put_in, FRAME, (value, 0), "x", 0)
            self.fails(BadTerm, {"path": (1, *path)}, law_put_in, FRAME, (R, value), "x", 0)
            self.fails(BadTerm, {"path": path}, law_put_in, FRAME, (R, S), "t", value)
        self.fails(UnknownName, {"name": ["r"]}, law_put_in, FRAME, (R, S), ["r"], 0)
        self.fails(NotFlat, {"number": 0}, law_put_in, FRAME, (R, S), "r", RS)
        self.fails(MixedEnds, {"number": 0}, law_put_in, FRAME, (R, S), "r", S)


class BookPutIn(Case):
    def test_examples(self):
        book = Book(TOTAL, [(RS, T), (("closed", T), T), (("rest", T), ("cut", T, T))])
        flat = ("rest", ("same", "a"))
        made = self.unchanged(book_put_in, book, "t", flat)
        self.assertEqual(made, Book(TOTAL, [(RS, flat), (("closed", flat), flat), (("rest", flat), ("cut", flat, flat))]))
        self.assertEqual(book_put_in(Book(FRAME, []), "t", flat), Book(FRAME, []))
        self.assertEqual(book_put_in(book, "u", U), book)

    def test_errors(self):
        for book in (Book(FRAME, []), Book(FRAME, [(R, R)])):
            for call in (book_put_in, defined):
                for value in ODD_VALUES + ["a", "x"]:
                    self.fails(UnknownName, {"name": value}, call, book, value, 0)
                for value, path in BAD_TERMS:
                    self.fails(BadTerm, {"path": path}, call, book, "r", value)
                self.fails(NotFlat, {"number": 0}, call, book, "t", RS)
                self.fails(NotFlat, {"number": 0}, call, book, "r", ("closed", T))
                self.fails(MixedEnds, {"number": 0}, call, book, "t", R)

    def test_defined(self):
        book = Book(FRAME, [(RS, T)])
        flat = ("joined", R, ("turned", S))
        made = self.unchanged(defined, book, "r", ("turned", S))
        self.assertEqual(made, Book(FRAME, [(RS, T), (R, ("turned", S)), (("turned", S), R)]))
        self.assertEqual(defined(Book(FRAME, []), "t", ("same", "a")), Book(FRAME, [(T, ("same", "a")), (("same", "a"), T)]))
        self.fails(NotFree, {"name": "r"}, defined, book, "r", flat)
        self.fails(NotFree, {"name": "r"}, defined, book, "r", R)
        self.fails(NotFree, {"name": "r"}, defined, Book(TOTAL, []), "r", ("turned", S))
        back = Frame(["a", "b"], [("r", "a", "b"), ("s", "b", "a")], [("s", "back")])
        self.fails(NotFree, {"name": "s"}, defined, Book(back, []), "s", ("turned", R))
        self.assertEqual(len(defined(Book(back, []), "r", ("turned", S))), 2)
        self.fails(MixedEnds, {"number": 0}, defined, Book(TOTAL, []), "r", S)

    def test_a_claim_by_the_defined_book(self):
        chance = seeded(203)
        answers = []
        while len(answers) < 40:
            frame = chance.choice((FRAME, TOTAL))
            name = chance.choice("stu")
            flat = chance_term(chance, frame.ends(name), 2, FLAT)
            ends = (chance.choice("ab"), chance.choice("ab"))
            claim = (chance_term(chance, ends, 2, SHORT), chance_term(chance, ends, 2, (KEPT,)))
            premises = [(chance_term(chance, ends, 2, SHORT), chance_term(chance, ends, 2, FLAT))]
            if ("letter", name) in parts(flat):
                continue
            book = Book(frame, premises)
            answers.append(holds(defined(book, name, flat), claim))
            self.assertIs(holds(book_put_in(book, name, flat), law_put_in(frame, claim, name, flat)), answers[-1])
        self.assertEqual(set(answers), {True, False})


def parts(term):
    below = [] if term[0] in ("letter", "same", "other", "none", "all") else term[1:]
    return [term] + [part for one in below for part in parts(one)]


class TurnedLaws(Case):
    def test_then(self):
        def turned(s, t):
            found = self.unchanged(turned_laws, FRAME, (s, t))
            self.assertEqual(found[0], (("turned", s), ("turned", t)))
            return found[1:]
        first = (("then", ("turned", R), ("rest", T)), ("rest", S))
        second = (("then", ("rest", T), ("turned", S)), ("rest", R))
        self.assertEqual(turned(RS, T), [first, second])
        long = ("then", RS, T)
        self.assertEqual(turned(long, T), [(("then", ("turned", RS), ("rest", T)), ("rest", T))])
        self.assertEqual(turned(("then", T, RS), T), [(("then", ("rest", T), ("turned", RS)), ("rest", T))])
        self.assertEqual(turned(("then", RS, RS), T), [])
        # What is not flat on the right has no rest.
        self.assertEqual(turned(RS, ("closed", T)), [])
        self.assertEqual(turned(RS, RS), [])

    def test_cut(self):
        def turned(s, t):
            return self.unchanged(turned_laws, FRAME, (s, t))[1:]
        self.assertEqual(turned(("cut", T, ("same", "a")), T), [
            (T, ("joined", T, ("rest", ("same", "a")))), (("same", "a"), ("joined", T, ("rest", T)))])
        self.assertEqual(turned(("cut", RS, T), RS), [(RS, ("joined", RS, ("rest", T)))])
        self.assertEqual(turned(("cut", T, RS), ("walked", T)), [(RS, ("joined", ("walked", T), ("rest", T)))])
        self.assertEqual(turned(("cut", RS, RS), T), [])

    def test_others(self):
        for s in (R, ("joined", R, R), ("rest", R), ("turned", S), ("all", "a", "b"), ("turned", ("then", S, T))):
            self.assertEqual(turned_laws(FRAME, (s, R)), [(("turned", s), ("turned", R))])
        self.told_anew(turned_laws, FRAME, (RS, T))

    def test_errors(self):
        for value in [value for value in ODD_VALUES if not (isinstance(value, tuple) and len(value) == 2)] + [[R, R], (R,)]:
            self.fails(BadTerm, {"path": ()}, turned_laws, FRAME, value)
        for value, path in BAD_TERMS:
            self.fails(BadTerm, {"path": (0, *path)}, turned_laws, FRAME, (value, 0))
            self.fails(BadTerm, {"path": (1, *path)}, turned_laws, FRAME, (R, value))
        for s in (("closed", T), ("rest", RS)):
            self.fails(NotShort, {}, turned_laws, FRAME, (s, ("rest", RS)))
            self.fails(NotShort, {}, turned_laws, FRAME, (s, R))
        self.fails(NotKept, {"number": 0}, turned_laws, FRAME, (R, ("rest", RS)))
        self.fails(MixedEnds, {"number": 0}, turned_laws, FRAME, (R, S))

    def test_the_same_books(self):
        chance = seeded(204)
        answers = []
        for _ in range(60):
            ends = (chance.choice("ab"), chance.choice("ab"))
            word = chance.choice(["then", "then", "cut"])
            middle = chance.choice("ab") if word == "then" else None
            below = [(ends[0], middle), (middle, ends[1])] if middle else [ends, ends]
            s = (word, *[chance_term(chance, one, chance.randint(1, 2), SHORT) for one in below])
            claim = (s, chance_term(chance, ends, 2, FLAT))
            premise = (chance_term(chance, ends, 2, SHORT), chance_term(chance, ends, 2, FLAT))
            book = Book(chance.choice((FRAME, TOTAL)), [premise])
            right = holds(book, claim)
            for turned in turned_laws(FRAME, claim):
                self.assertTrue(is_short(turned[0]) and is_kept(turned[1]), written(turned))
                self.assertIs(holds(book, turned), right)
                answers.append(right)
        self.assertGreater(len([right for right in answers if right]), 20)
        self.assertGreater(len([right for right in answers if not right]), 20)

    def test_turned_again(self):
        for turned in turned_laws(FRAME, (RS, T)):
            for again in turned_laws(FRAME, turned):
                self.assertIs(holds(Book(FRAME, [(RS, T)]), again), True)
                self.assertIs(holds(Book(FRAME, [(RS, ("all", "a", "a"))]), again), False)


class PremisesOf(Case):
    def test_examples(self):
        turned = ("turned", R)
        self.assertEqual(self.unchanged(premises_of, FRAME, "one", "r"), [(("then", turned, R), ("same", "b"))])
        self.assertEqual(self.unchanged(premises_of, FRAME, "apart", "r"), [(("then", R, turned), ("same", "a"))])
        back = ("turned", T)
        for word, right in [
                ("one", (("then", back, T), ("same", "a"))), ("apart", (("then", T, back), ("same", "a"))),
                ("self", (("same", "a"), T)), ("never", (("cut", ("same", "a"), T), ("none", "a", "a"))),
                ("both", (back, T)), ("through", (("then", T, T), T)), ("single", (("cut", T, back), ("same", "a"))),
                ("any", (("other", "a"), ("joined", T, back)))]:
            self.assertEqual(self.unchanged(premises_of, FRAME, word, "t"), [right])
        self.told_anew(premises_of, FRAME, "any", "u")

    def test_errors(self):
        for value in ODD_VALUES + ["each", "onto", "On", "t", "letter"]:
            self.fails(UnknownName, {"name": value}, premises_of, FRAME, value, "x")
        for word in WORDS:
            for value in ODD_VALUES + ["x", "a"]:
                self.fails(UnknownName, {"name": value}, premises_of, FRAME, word, value)
        for word in WORDS[2:]:
            self.fails(NotSquare, {}, premises_of, FRAME, word, "r")
            self.fails(NotSquare, {}, premises_of, FRAME, word, "s")

    def test_as_it_is_meant(self):
        frame = Frame(["a", "b"], [("r", "a", "b")], [])
        square = Frame(["a"], [("r", "a", "a")], [])
        for base, words in ((frame, WORDS[:2]), (square, WORDS)):
            for world in all_small_worlds(base, 3):
                for word in words:
                    book = Book(base, premises_of(base, word, "r"))
                    self.assertIs(obeys(book, world), has_kind(world.relation("r"), word))

    def test_they_are_premises(self):
        for word in WORDS:
            (p, q), = premises_of(FRAME, word, "u")
            self.assertTrue(is_short(p) and is_flat(q))
            self.assertEqual(ends_of(FRAME, p), ends_of(FRAME, q))


if __name__ == "__main__":
    unittest.main()
