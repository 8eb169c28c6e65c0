"""Terms, parts and paths (S3.2, S3.3)."""

import unittest

from pairlaws.errors import BadTerm
from pairlaws.frames import Frame
from pairlaws.terms import ends_of, part_at, paths, with_part
from tests.support import ODD_VALUES, Case
from tests.termsupport import FRAME, PARTS_BELOW, R, S, T, U, below, chance_terms, nested

LETTER_ODD = [value for value in ODD_VALUES if not isinstance(value, str)] + ["", "q", "a", "R", "rr"]
SORT_ODD = [value for value in ODD_VALUES if not isinstance(value, str)] + ["", "q", "r", "A", "ab"]


def all_parts(term, path=()):
    yield path, term
    for number, part in enumerate(below(term)):
        yield from all_parts(part, (*path, number))


class Ends(Case):
    def test_each_form(self):
        for term, ends in ((R, "ab"), (S, "ba"), (T, "aa"), (("same", "a"), "aa"), (("other", "b"), "bb"),
                           (("none", "a", "b"), "ab"), (("all", "b", "a"), "ba"), (("none", "b", "b"), "bb"),
                           (("rest", R), "ab"), (("turned", R), "ba"), (("joined", R, ("all", "a", "b")), "ab"),
                           (("cut", ("turned", S), R), "ab"), (("then", R, S), "aa"), (("then", S, R), "bb"),
                           (("then", T, R), "ab"), (("then", R, U), "ab"), (("closed", T), "aa"), (("walked", U), "bb"),
                           (("closed", ("then", S, R)), "bb")):
            self.assertEqual(self.unchanged(ends_of, FRAME, term), tuple(ends))

    def test_large_ones(self):
        for ends, term in chance_terms(300, 6, 22):
            self.assertEqual(ends_of(FRAME, term), ends)

    def test_at_the_limits(self):
        deep = nested("turned", R, 11)
        self.assertEqual(ends_of(FRAME, deep), ("b", "a"))
        self.assertEqual(ends_of(FRAME, nested("rest", T, 149)), ("a", "a"))
        wide = T
        for _ in range(19):
            wide = ("then", wide, T)
        self.assertEqual(len(paths(wide)), 39)
        self.assertEqual(ends_of(FRAME, ("closed", wide)), ("a", "a"))

    def bad(self, path, value, frame=FRAME):
        self.fails(BadTerm, {"path": path}, ends_of, frame, value)

    def test_no_tuples(self):
        for value in ODD_VALUES + [["letter", "r"], "letter", {"letter": "r"}, [["letter", "r"]]]:
            self.bad((), value)
            self.bad((0,), ("rest", value))
            self.bad((1,), ("then", R, value))
            self.bad((0, 1), ("turned", ("cut", R, value)))

    def test_wrong_words_and_lengths(self):
        for word in ODD_VALUES + ["", "letters", "Letter", "a", "sort"]:
            for value in ((word,), (word, "r"), (word, R), (word, R, S), (word, "a", "b")):
                self.bad((), value)
        for word in ("letter", "same", "other", "none", "all"):
            told = 2 if word in ("none", "all") else 1
            for count in range(5):
                if count != told:
                    self.bad((), (word, *["a"] * count))
        for word, many in PARTS_BELOW.items():
            if many:
                for count in range(5):
                    if count != many:
                        self.bad((), (word, *[T] * count))

    def test_wrong_letters_and_sorts(self):
        for value in LETTER_ODD:
            self.bad((), ("letter", value))
            self.bad((0, 0), ("closed", ("rest", ("letter", value))))
        for value in SORT_ODD:
            for word in ("same", "other"):
                self.bad((), (word, value))
            for word in ("none", "all"):
                self.bad((), (word, value, "a"))
                self.bad((), (word, "a", value))
                self.bad((1,), ("joined", T, (word, "a", value)))
        self.bad((), ("letter", "r"), Frame(["r"], [], []))
        self.bad((), ("same", "a"), Frame([], [], []))

    def test_wrong_ends(self):
        for word in ("joined", "cut"):
            self.bad((), (word, R, S))
            self.bad((), (word, R, T))
            self.bad((), (word, T, U))
            self.bad((), (word, R, ("turned", R)))
        for value in (("then", R, R), ("then", R, T), ("then", T, U), ("closed", R), ("walked", S)):
            self.bad((), value)
            self.bad((0, 0), ("rest", ("turned", value)))

    def test_order_of_forms(self):
        # Each part before its own parts, those below 0 before those below 1.
        bad = ("letter", "q")
        self.bad((), ("then", bad, bad, bad))
        self.bad((0,), ("then", bad, bad))
        self.bad((0, 1), ("then", ("cut", R, bad), bad))
        self.bad((0, 0, 0), ("then", ("cut", ("rest", bad), bad), bad))
        self.bad((0,), ("then", ("rest", bad, bad), bad))
        self.bad((1,), ("then", R, ("same", bad)))

    def test_forms_before_ends(self):
        self.bad((1, 1), ("joined", ("then", R, R), ("cut", R, ("same", "q"))))
        self.bad((1,), ("then", ("closed", R), None))

    def test_order_of_ends(self):
        # Each part after its own parts, those below 0 before those below 1.
        bad = ("then", R, R)
        self.bad((0,), ("then", bad, bad))
        self.bad((1,), ("then", ("rest", R), bad))
        self.bad((0, 0), ("closed", ("then", bad, ("closed", R))))
        self.bad((0, 1), ("closed", ("then", S, ("closed", R))))
        self.bad((0,), ("closed", ("then", R, R)))
        self.bad((0, 1, 0), ("joined", ("cut", R, ("rest", bad)), bad))
        self.bad((1, 0), ("cut", ("joined", T, T), ("then", ("walked", S), bad)))

    def test_deep_and_large_values(self):
        self.bad((0,) * 148, nested("rest", None, 148))
        self.bad((0,) * 150, nested("walked", ("letter", "q"), 150))
        self.bad((0,) * 149, nested("rest", ("closed", R), 149))
        deep = []
        for _ in range(149):
            deep = [deep]
        self.bad((), deep)
        self.bad((1,), ("then", R, deep))
        wide = T
        for _ in range(9):
            wide = ("joined", wide, wide)
        self.assertEqual(ends_of(FRAME, wide), ("a", "a"))
        self.bad((1,), ("cut", wide, ("same", "q")))
        self.bad((), ("cut", wide, U))
        self.bad((), ("letter",) + ("r",) * 3990)


class Parts(Case):
    def test_paths(self):
        term = ("then", ("rest", ("cut", R, ("all", "a", "b"))), ("turned", R))
        self.assertEqual(self.unchanged(paths, term), [(), (0,), (0, 0), (0, 0, 0), (0, 0, 1), (1,), (1, 0)])
        self.assertEqual(paths(("same", "x")), [()])
        for _, term in chance_terms(100, 6, 23):
            self.assertEqual(paths(term), [path for path, _ in all_parts(term)])

    def test_part_at(self):
        for _, term in chance_terms(60, 5, 24):
            for path, part in all_parts(term):
                self.assertIs(self.unchanged(part_at, term, path), part)

    def test_no_part_at(self):
        term = ("then", ("rest", R), ("same", "b"))
        wrong = [(2,), (-1,), (0, 1), (0, 0, 0), (1, 0), (0, 0, 1), (0, -1), (7, 0), (True,), (False,), (0, False),
                 (0, True), (None,), ("0",), ((0,),), ([0],), (0, "r"), (1, "b"), (10 ** 30,), ({},)]
        for path in wrong:
            self.fails(BadTerm, {"path": path}, part_at, term, path)
            self.fails(BadTerm, {"path": path}, with_part, term, path, R)
        for word in ("same", "other", "none", "all", "letter"):
            self.fails(BadTerm, {"path": (0,)}, part_at, (word, "a", "b")[:3 if word in ("none", "all") else 2], (0,))

    def test_with_part(self):
        new = ("other", "z")
        for _, term in chance_terms(60, 5, 25):
            for path, _ in all_parts(term):
                made = self.unchanged(with_part, term, path, new)
                kept = dict(all_parts(term))
                for at, part in all_parts(made):
                    if at[:len(path)] != path and path[:len(at)] != at:
                        self.assertEqual(part, kept[at])
                    if path[:len(at)] == at and at != path:
                        self.assertEqual((part[0], len(part)), (kept[at][0], len(kept[at])))
                self.assertEqual(dict(all_parts(made))[path], new)
                self.assertEqual(with_part(made, path, part_at(term, path)), term)

    def test_with_part_examples(self):
        term = ("then", ("rest", R), ("same", "b"))
        self.assertEqual(with_part(term, (), T), T)
        self.assertEqual(with_part(term, (0, 0), T), ("then", ("rest", T), ("same", "b")))
        self.assertEqual(with_part(term, (1,), ("closed", R)), ("then", ("rest", R), ("closed", R)))

    def test_new_list(self):
        term = ("rest", R)
        paths(term).clear()
        self.assertEqual(paths(term), [(), (0,)])


if __name__ == "__main__":
    unittest.main()
