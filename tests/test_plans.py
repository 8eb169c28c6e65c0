"""Plans of terms, judged and read back (S8.1)."""

import unittest

from pairlaws.errors import BadPlan, BadTerm, TooMany
from pairlaws.forms import size
from pairlaws.frames import Frame
from pairlaws.plans import compiled, first_wrong, plan_term
from pairlaws.terms import ends_of
from tests.casesupport import seeded
from tests.support import ODD_VALUES, SMALL_WORLD, Case
from tests.termsupport import FRAME, PARTS_BELOW, R, S, T, U, below, chance_terms, nested

RS = ("then", R, S)
# Rows over FRAME that are allowed behind the rows of START.
START = (R, S, T, U, ("same", "a"))
RIGHT_ROWS = [R, S, ("same", "b"), ("other", "a"), ("none", "a", "b"), ("all", "b", "b"), ("rest", 0), ("turned", 4),
              ("closed", 2), ("walked", 3), ("joined", 2, 4), ("cut", 0, 0), ("then", 0, 1), ("then", 1, 2), ("then", 2, 2)]
WRONG_ROWS = [("letter", "x"), ("letter", "a"), ("letter", True), ("letter", ["r"]), ("letter", R), ("letter",),
              ("letter", "r", "r"), ("same", "r"), ("same", "a", "a"), ("same",), ("other", 0), ("other", None),
              ("none", "a"), ("none", "a", "c"), ("none", "c", "a"), ("all", "a", "b", "a"), ("all", ("a",), "b"),
              ("rest", 5), ("rest", 6), ("rest", -1), ("rest", True), ("rest", False), ("rest", "0"), ("rest", R), ("rest",),
              ("rest", 0, 0), ("rest", None), ("rest", [0]), ("rest", 10 ** 30), ("turned", 5), ("turned", -5), ("turned", False),
              ("closed", 0), ("closed", 1), ("closed", 5), ("closed", True), ("walked", 0), ("walked", 7),
              ("joined", 0), ("joined", 0, 1), ("joined", 0, 5), ("joined", 5, 0), ("joined", 0, False), ("joined", False, 0),
              ("cut", 2, 3), ("cut", 0, 4), ("cut", 0, 0, 0), ("cut", -1, -1), ("then", 0, 0), ("then", 2, 1), ("then", 0, True),
              ("then", 0), ("then", 0, 1, 2), ("held", 0), ("Rest", 0), (0, 0), (None, 0), (("rest",), 0), ("", 0)]


def subterms(term):
    """The different subterms in the order of the document."""
    found = []
    for part in below(term):
        found += [one for one in subterms(part) if one not in found]
    return found + [term]


class Compiled(Case):
    def test_examples(self):
        for term, rows in [
                (R, (R,)), (("same", "a"), (("same", "a"),)), (("all", "a", "b"), (("all", "a", "b"),)),
                (RS, (R, S, ("then", 0, 1))),
                (("joined", RS, T), (R, S, ("then", 0, 1), T, ("joined", 2, 3))),
                (("then", T, T), (T, ("then", 0, 0))),
                (("cut", ("rest", ("turned", T)), ("closed", T)),
                 (T, ("turned", 0), ("rest", 1), ("closed", 0), ("cut", 2, 3))),
                (("joined", ("then", T, RS), ("cut", RS, T)),
                 (T, R, S, ("then", 1, 2), ("then", 0, 3), ("cut", 3, 0), ("joined", 4, 5)))]:
            self.assertEqual(self.unchanged(compiled, FRAME, term), rows)

    def test_sort_and_letter_of_one_name(self):
        frame = Frame(["r"], [("r", "r", "r")], [])
        term = ("joined", ("joined", ("letter", "r"), ("same", "r")), ("joined", ("other", "r"), ("letter", "r")))
        rows = (("letter", "r"), ("same", "r"), ("joined", 0, 1), ("other", "r"), ("joined", 3, 0), ("joined", 2, 4))
        self.assertEqual(compiled(frame, term), rows)

    def test_as_it_is_meant(self):
        for _, term in chance_terms(150, 6, 221):
            found = subterms(term)
            right = tuple([(one[0], *[found.index(part) for part in below(one)]) if below(one) else one for one in found])
            self.assertEqual(compiled(FRAME, term), right)
            self.assertIs(first_wrong(FRAME, right), None)
            if size(term) <= 200:
                self.assertEqual(plan_term(FRAME, right), term)

    def test_errors(self):
        for value in ODD_VALUES + [["letter", "r"], ("rest", 0)]:
            path = (0,) if value == ("rest", 0) else ()
            self.fails(BadTerm, {"path": path}, compiled, FRAME, value)
        self.fails(BadTerm, {"path": (1, 0)}, compiled, FRAME, ("then", R, ("rest", ("letter", "x"))))
        self.fails(BadTerm, {"path": (1,)}, compiled, FRAME, ("then", R, ("closed", S)))
        self.fails(BadTerm, {"path": (0,) * 150}, compiled, FRAME, nested("rest", None, 150))


class FirstWrong(Case):
    def test_no_plans(self):
        for value in ODD_VALUES + [[R], [("rest", 0)], "letter", (), [], {0: R}, R[0], list(START)]:
            self.assertEqual(self.unchanged(first_wrong, FRAME, value), 0)
        # A term is a tuple of words and terms, and no plan, whose rows are tuples.
        self.assertEqual(first_wrong(FRAME, R), 0)
        self.assertEqual(first_wrong(FRAME, (R, "letter")), 1)

    def test_right_rows(self):
        for row in RIGHT_ROWS:
            self.assertIs(self.unchanged(first_wrong, FRAME, START + (row,)), None, row)
            self.assertIs(first_wrong(FRAME, START + (row, row)), None, row)
        self.assertIs(first_wrong(FRAME, START), None)
        self.assertIs(first_wrong(FRAME, (R,)), None)
        self.assertIs(first_wrong(FRAME, (R, R, R)), None)

    def test_wrong_rows(self):
        for row in WRONG_ROWS + ODD_VALUES + [list(R), ["rest", 0], "rest"]:
            self.assertEqual(self.unchanged(first_wrong, FRAME, START + (row,)), 5, row)
            self.assertEqual(first_wrong(FRAME, START + (row, ("rest", 5), None)), 5, row)

    def test_own_and_later_numbers(self):
        self.assertEqual(first_wrong(FRAME, (("rest", 0),)), 0)
        self.assertEqual(first_wrong(FRAME, (("rest", 1), R)), 0)
        self.assertEqual(first_wrong(FRAME, (R, ("rest", 1))), 1)
        self.assertEqual(first_wrong(FRAME, (R, ("rest", 2), S)), 1)
        self.assertEqual(first_wrong(FRAME, (R, ("turned", 0), ("joined", 0, 1))), 2)
        self.assertIs(first_wrong(FRAME, (R, ("turned", 0), ("then", 0, 1), ("closed", 2))), None)

    def test_as_it_is_meant(self):
        # A row is allowed if its form is right and the term that it stands for has ends.
        chance = seeded(222)
        found = {}
        for _ in range(400):
            rows, terms = [], []
            right = None
            for number in range(chance.randint(1, 6)):
                word = chance.choice(sorted(PARTS_BELOW))
                count = PARTS_BELOW[word]
                told = [chance.choice("rstuab")] if word == "letter" else [chance.choice("aabbr") for _ in range({"none": 2, "all": 2}.get(word, 1))]
                row = (word, *[chance.randint(0, number) for _ in range(count)]) if count else (word, *told)
                rows.append(row)
                if right is None and (count == 0 or all([at < number for at in row[1:]])):
                    terms.append((word, *[terms[at] for at in row[1:]]) if count else row)
                    try:
                        ends_of(FRAME, terms[-1])
                    except BadTerm:
                        right = number
                elif right is None:
                    right = number
            found[right] = True
            self.assertEqual(first_wrong(FRAME, tuple(rows)), right)
            if right is None:
                self.assertEqual(plan_term(FRAME, tuple(rows)), terms[-1])
        self.assertGreater(len(found), 4)

    def test_other_frames(self):
        self.assertEqual(first_wrong(Frame([], [], []), (R,)), 0)
        self.assertEqual(first_wrong(SMALL_WORLD.frame(), (("same", "a"), R)), 1)


class PlanTerm(Case):
    def test_examples(self):
        for rows, term in [
                ((R,), R), ((R, S, ("then", 0, 1)), RS), ((S, R, ("then", 1, 0)), RS), ((R, R, S, ("then", 1, 2)), RS),
                ((T, ("then", 0, 0), ("then", 0, 1), ("then", 1, 1)), ("then", ("then", T, T), ("then", T, T))),
                ((R, S, U, ("closed", 2), ("rest", 0)), ("rest", R)), (START, ("same", "a")),
                ((T, ("rest", 0), ("all", "a", "b")), ("all", "a", "b"))]:
            self.assertEqual(self.unchanged(plan_term, FRAME, rows), term)

    def test_errors(self):
        for value in ODD_VALUES + [[R], ()]:
            self.fails(BadPlan, {"number": 0}, plan_term, FRAME, value)
        for row in WRONG_ROWS:
            self.fails(BadPlan, {"number": 5}, plan_term, FRAME, START + (row,))
        # What has too many parts further on is still no plan.
        grown = (T,) + tuple([("then", number, number) for number in range(9)])
        self.fails(BadPlan, {"number": 10}, plan_term, FRAME, grown + (None,))

    def test_sizes(self):
        # Seven doublings of one part and joins: 2 ** 7 - 1 = 127 parts; 127 + 63 + 7 + 2 + 1 = 200.
        doubled = (T,) + tuple([("joined", number, number) for number in range(6)])
        self.assertEqual(size(plan_term(FRAME, doubled)), 127)
        rows = doubled + (("joined", 6, 5), ("joined", 7, 2), ("rest", 8))
        term = plan_term(FRAME, rows)
        self.assertEqual(size(term), 200)
        self.assertEqual(compiled(FRAME, term), rows)
        self.fails(TooMany, {}, plan_term, FRAME, rows + (("rest", 9),))
        self.fails(TooMany, {}, plan_term, FRAME, doubled + (("joined", 6, 6),))

    def test_long_chains(self):
        rows = (T,) + tuple([("turned", number) for number in range(199)])
        self.assertEqual(compiled(FRAME, plan_term(FRAME, rows)), rows)
        self.fails(TooMany, {}, plan_term, FRAME, rows + (("rest", 199),))

    def test_huge_sizes(self):
        rows = (T,) + tuple([("then", number, number) for number in range(300)])
        self.assertIs(first_wrong(FRAME, rows), None)
        self.fails(TooMany, {}, plan_term, FRAME, rows)
        # Rows that the last one does not use do not count.
        self.assertEqual(plan_term(FRAME, rows + (R,)), R)
        self.assertEqual(plan_term(FRAME, rows + (("rest", 0),)), ("rest", T))


if __name__ == "__main__":
    unittest.main()
