"""The forms of terms, pushed forms, and terms with other names (S3.4, S3.5)."""

import random
import unittest

from pairlaws.closing import closed, walked
from pairlaws.forms import is_flat, is_kept, is_plain, is_short, led_term, letters_in, pushed, size, sorts_in
from pairlaws.relations import Relation, every_pair, no_pair, other_pairs, same_pairs
from pairlaws.terms import ends_of
from tests.support import Case
from tests.termsupport import FRAME, R, S, T, U, below, chance_terms, nested

THINGS = {"a": ["x", "y", "z"], "b": ["x", "w"]}


def parts(term):
    return [term] + [found for part in below(term) for found in parts(part)]


def words(term):
    return [part[0] for part in parts(term)]


def chance_letters(chance):
    return {name: Relation(THINGS[first], THINGS[second],
                           [(x, y) for x in THINGS[first] for y in THINGS[second] if chance.random() < 0.4])
            for name, first, second in FRAME.letters()}


def value_of(term, letters):
    """The worth of a term in a world of THINGS, as S4.3 defines it."""
    word = term[0]
    inner = [value_of(part, letters) for part in below(term)]
    if word == "letter":
        return letters[term[1]]
    if word in ("same", "other"):
        return {"same": same_pairs, "other": other_pairs}[word](THINGS[term[1]])
    if word in ("none", "all"):
        return {"none": no_pair, "all": every_pair}[word](THINGS[term[1]], THINGS[term[2]])
    if word == "rest":
        return ~inner[0]
    if word == "turned":
        return inner[0].turned()
    if word in ("closed", "walked"):
        return {"closed": closed, "walked": walked}[word](inner[0])
    return {"joined": lambda: inner[0] | inner[1], "cut": lambda: inner[0] & inner[1],
            "then": lambda: inner[0] >> inner[1]}[word]()


class Forms(Case):
    def test_examples(self):
        def forms(term):
            return [self.unchanged(is_flat, term), is_kept(term), is_short(term), is_plain(term)]
        for term, flat, kept, short, plain in (
                (R, True, True, True, True), (("same", "a"), True, True, True, True),
                (("other", "a"), True, True, True, False), (("none", "a", "b"), True, True, True, True),
                (("all", "a", "b"), True, True, True, True), (("rest", R), True, True, True, False),
                (("turned", R), True, True, True, True), (("joined", R, R), True, True, True, True),
                (("cut", R, R), True, True, True, True), (("then", R, S), False, True, True, True),
                (("closed", T), False, True, False, False), (("walked", T), False, True, False, False),
                (("rest", ("then", R, S)), False, False, False, False),
                (("rest", ("rest", ("closed", T))), False, False, False, False),
                (("then", ("rest", R), ("turned", R)), False, True, True, False),
                (("rest", ("cut", R, ("rest", R))), True, True, True, False),
                (("cut", ("rest", T), ("closed", T)), False, True, False, False),
                (("turned", ("rest", ("turned", ("walked", T)))), False, False, False, False)):
            self.assertEqual(forms(term), [flat, kept, short, plain], term)
            for answer in forms(term):
                self.assertIsInstance(answer, bool)

    def test_large_ones(self):
        for _, term in chance_terms(400, 6, 26):
            found = words(term)
            flat = not {"then", "closed", "walked"} & set(found)
            kept = all([is_flat(part[1]) for part in parts(term) if part[0] == "rest"])
            self.assertIs(is_flat(term), flat)
            self.assertIs(is_kept(term), kept)
            self.assertIs(is_short(term), kept and not {"closed", "walked"} & set(found))
            self.assertIs(is_plain(term), not {"rest", "other", "closed", "walked"} & set(found))
            self.assertEqual(self.unchanged(size, term), len(found))

    def test_size(self):
        self.assertEqual(size(R), 1)
        self.assertEqual(size(("then", R, R)), 3)
        double = ("joined", T, T)
        self.assertEqual(size(("then", double, double)), 7)
        self.assertEqual(size(nested("rest", R, 11)), 12)

    def test_names_in(self):
        term = ("then", ("cut", U, ("then", S, R)), ("then", S, ("joined", ("all", "a", "b"), R)))
        self.assertEqual(self.unchanged(letters_in, term), ["u", "s", "r"])
        self.assertEqual(self.unchanged(sorts_in, term), ["a", "b"])
        self.assertEqual(sorts_in(("then", ("none", "b", "a"), ("other", "a"))), ["b", "a"])
        self.assertEqual(sorts_in(("all", "c", "c")), ["c"])
        self.assertEqual((letters_in(("same", "a")), sorts_in(R)), ([], []))
        self.assertEqual(letters_in(("then", ("letter", "same"), ("same", "letter"))), ["same"])
        self.assertEqual(sorts_in(("then", ("letter", "same"), ("same", "letter"))), ["letter"])
        letters_in(term).clear()
        sorts_in(term).clear()
        self.assertEqual((letters_in(term), sorts_in(term)), (["u", "s", "r"], ["a", "b"]))

    def test_names_in_large_ones(self):
        for _, term in chance_terms(200, 6, 27):
            letters = [part[1] for part in parts(term) if part[0] == "letter"]
            sorts = [sort for part in parts(term) if part[0] in ("same", "other", "none", "all") for sort in part[1:]]
            self.assertEqual(letters_in(term), list(dict.fromkeys(letters)))
            self.assertEqual(sorts_in(term), list(dict.fromkeys(sorts)))


class Pushed(Case):
    def test_examples(self):
        def no(term):
            return ("rest", term)

        def turn(term):
            return ("turned", term)
        for term, form in (
                (R, R), (turn(R), turn(R)), (no(R), no(R)), (turn(no(R)), no(turn(R))), (no(turn(R)), no(turn(R))),
                (turn(turn(R)), R), (no(no(R)), R), (no(turn(no(turn(R)))), R),
                (no(("same", "a")), ("other", "a")), (no(("other", "a")), ("same", "a")), (turn(("same", "a")), ("same", "a")),
                (no(("none", "a", "b")), ("all", "a", "b")), (no(("all", "a", "b")), ("none", "a", "b")),
                (turn(("none", "a", "b")), ("none", "b", "a")), (no(turn(("all", "a", "b"))), ("none", "b", "a")),
                (no(("joined", R, R)), ("cut", no(R), no(R))), (no(("cut", R, no(R))), ("joined", no(R), R)),
                (turn(("joined", R, turn(S))), ("joined", turn(R), S)), (turn(("cut", R, R)), ("cut", turn(R), turn(R))),
                (turn(("then", R, S)), ("then", turn(S), turn(R))),
                (turn(("then", ("then", R, S), T)), ("then", turn(T), ("then", turn(S), turn(R)))),
                (no(("then", R, no(S))), no(("then", R, no(S)))),
                (turn(no(("then", R, S))), no(("then", turn(S), turn(R)))),
                (no(no(("then", R, S))), ("then", R, S)),
                (no(("closed", no(turn(T)))), no(("closed", no(turn(T))))),
                (turn(("walked", no(T))), ("walked", no(turn(T)))),
                (no(("joined", T, ("then", T, no(no(T))))), no(("joined", T, ("then", T, T)))),
                (no(("cut", no(no(T)), ("closed", turn(turn(T))))), no(("cut", T, ("closed", T)))),
                (turn(("cut", no(("joined", T, T)), ("closed", T))),
                 ("cut", ("cut", no(turn(T)), no(turn(T))), ("closed", turn(T)))),
                (no(("joined", no(("then", T, T)), T)), no(("joined", no(("then", T, T)), T)))):
            self.assertEqual(self.unchanged(pushed, term), form, term)

    def test_what_it_holds(self):
        chance = random.Random(28)
        for ends, term in chance_terms(400, 6, 29):
            form = pushed(term)
            letters = chance_letters(chance)
            self.assertEqual(ends_of(FRAME, form), ends)
            self.assertEqual(value_of(form, letters), value_of(term, letters))
            self.assertEqual(pushed(form), form)
            for part in parts(form):
                if part[0] == "turned":
                    self.assertEqual(part[1][0], "letter")
                if part[0] == "rest":
                    self.assertTrue(part[1][0] in ("letter", "turned") or not is_flat(part[1]))

    def test_at_the_limit(self):
        self.assertEqual(pushed(nested("turned", R, 11)), ("turned", R))
        self.assertEqual(pushed(nested("rest", nested("turned", R, 5), 6)), ("turned", R))
        self.assertEqual(pushed(nested("closed", ("turned", T), 10)), nested("closed", ("turned", T), 10))


class Led(Case):
    def test_examples(self):
        term = ("then", ("cut", R, ("all", "a", "b")), ("rest", ("turned", ("joined", R, ("none", "a", "b")))))
        made = ("then", ("cut", ("letter", "s"), ("all", "b", "c")),
                ("rest", ("turned", ("joined", ("letter", "s"), ("none", "b", "c")))))
        self.assertEqual(self.unchanged(led_term, term, {"r": "s", "s": "t"}, {"a": "b", "b": "c"}), made)
        self.assertEqual(led_term(term, {}, {}), term)
        self.assertEqual(led_term(("same", "a"), {"a": "z"}, {"b": "z"}), ("same", "a"))
        self.assertEqual(led_term(("letter", "a"), {"b": "z"}, {"a": "z"}), ("letter", "a"))
        self.assertEqual(led_term(("closed", ("letter", "closed")), {"closed": "x"}, {}), ("closed", ("letter", "x")))
        self.assertEqual(led_term(("other", "same"), {}, {"same": "all", "other": "z"}), ("other", "all"))

    def test_there_and_back(self):
        letters, sorts = {"r": "u", "u": "r", "s": "new"}, {"a": "b", "b": "a"}
        back = {letters[name]: name for name in letters}
        for _, term in chance_terms(100, 6, 30):
            made = self.unchanged(led_term, term, letters, sorts)
            self.assertEqual(words(made), words(term))
            self.assertEqual(letters_in(made), [letters.get(name, name) for name in letters_in(term)])
            self.assertEqual(sorts_in(made), [sorts[name] for name in sorts_in(term)])
            self.assertEqual(led_term(made, back, sorts), term)


if __name__ == "__main__":
    unittest.main()
