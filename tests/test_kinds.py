"""The kinds of relations and their faults (S2.2)."""

import itertools
import unittest

from pairlaws.errors import NotOfKind, NotSquare, UnknownName
from pairlaws.kinds import (first_fault, has_kind, is_function, is_order, is_parting, is_strict_order, kinds_of,
                            least_with, require_kinds)
from pairlaws.relations import Relation, every_pair, no_pair, same_pairs
from tests.support import ODD_VALUES, Case, chance_relations, names_of, small_relations, square_relations

GENERAL = ["each", "one", "onto", "apart"]
SQUARE = ["self", "never", "both", "through", "single", "any"]


def faults(r, word):
    """All faults, as the document tells them, ascending by the places of their names."""
    xs, ys = r.sources(), r.targets()
    at = {x: place for place, x in enumerate(xs)}
    down = {y: place for place, y in enumerate(ys)}
    if word == "each":
        return [(x,) for x in xs if not [y for y in ys if (x, y) in r]]
    if word == "one":
        return [(x, y, z) for x in xs for y in ys for z in ys if down[y] < down[z] and (x, y) in r and (x, z) in r]
    if word == "onto":
        return [(y,) for y in ys if not [x for x in xs if (x, y) in r]]
    if word == "apart":
        return [(x, u, y) for x in xs for u in xs for y in ys if at[x] < at[u] and (x, y) in r and (u, y) in r]
    if word in ("self", "never"):
        return [(x,) for x in xs if ((x, x) in r) == (word == "never")]
    if word == "both":
        return [(x, y) for x in xs for y in xs if (x, y) in r and (y, x) not in r]
    if word == "through":
        return [(x, y, z) for x in xs for y in xs for z in xs if (x, y) in r and (y, z) in r and (x, z) not in r]
    if word == "single":
        return [(x, y) for x in xs for y in xs if at[x] < at[y] and (x, y) in r and (y, x) in r]
    return [(x, y) for x in xs for y in xs if at[x] < at[y] and (x, y) not in r and (y, x) not in r]


class Kinds(Case):
    def check(self, r):
        words = GENERAL + SQUARE if r.sources() == r.targets() else GENERAL
        found = {}
        for word in words:
            found[word] = faults(r, word)
            self.assertEqual(self.unchanged(first_fault, r, word), found[word][0] if found[word] else None)
            self.assertIs(self.unchanged(has_kind, r, word), not found[word])
        self.assertEqual(self.unchanged(kinds_of, r), [word for word in words if not found[word]])

        def are(*needed):
            return all([word in found and not found[word] for word in needed])
        self.assertIs(self.unchanged(is_function, r), are("each", "one"))
        self.assertIs(self.unchanged(is_parting, r), are("self", "both", "through"))
        self.assertIs(self.unchanged(is_order, r), are("self", "through", "single"))
        self.assertIs(self.unchanged(is_strict_order, r), are("never", "through"))

    def test_small_ones(self):
        for r in small_relations():
            self.check(r)
        for r in square_relations(3):
            self.check(r)

    def test_large_ones(self):
        for r in chance_relations(names_of(8), names_of(8), 60, 12):
            self.check(r)
            self.check(r | r.turned())
            self.check(r - r.turned())
        for r in chance_relations(names_of(8), names_of(5), 30, 13):
            self.check(r)

    def test_empty(self):
        self.assertEqual(kinds_of(Relation([], [], [])), GENERAL + SQUARE)
        self.assertEqual(kinds_of(Relation(["a"], [], [])), ["one", "onto", "apart"])
        self.assertEqual(kinds_of(Relation([], ["a"], [])), ["each", "one", "apart"])
        self.assertEqual(kinds_of(Relation(["a", "b"], ["b", "a"], [("a", "a"), ("b", "b")])), GENERAL)

    def test_wrong_words(self):
        for r in (same_pairs(["a"]), no_pair(["a"], ["b"])):
            for value in ODD_VALUES + ["total", "Each", "each "]:
                self.fails(UnknownName, {"name": value}, first_fault, r, value)
                self.fails(UnknownName, {"name": value}, has_kind, r, value)

    def test_not_square(self):
        for r in (no_pair(["a"], ["b"]), no_pair(["a", "b"], ["b", "a"]), no_pair([], ["a"])):
            for word in SQUARE:
                self.fails(NotSquare, {}, first_fault, r, word)
                self.fails(NotSquare, {}, has_kind, r, word)
            for call in (is_parting, is_order, is_strict_order):
                self.assertIs(call(r), False)

    def test_new_list(self):
        r = same_pairs(["a"])
        kinds_of(r).clear()
        self.assertIn("each", kinds_of(r))


class LeastWith(Case):
    def test_least(self):
        relations = list(square_relations(2)) + list(square_relations(3))[20:530:17]
        for r in relations:
            above = [s for s in square_relations(3) if s.sources() == r.sources() and r <= s]
            for count in range(4):
                for words in itertools.permutations(("self", "both", "through"), count):
                    made = self.unchanged(least_with, r, list(words))
                    for s in above:
                        if all([has_kind(s, word) for word in words]):
                            self.assertTrue(made <= s)
                    self.assertIn(made, above)
                    self.assertTrue(all([has_kind(made, word) for word in words]))
                    self.assertEqual(least_with(r, (*words, *words)), made)

    def test_no_words(self):
        r = Relation(["a", "b"], ["a", "b"], [("a", "b")])
        self.assertEqual(least_with(r, []), r)

    def test_errors(self):
        for r in (same_pairs(["a"]), no_pair(["a"], ["b"])):
            for value in ODD_VALUES + ["each", "single", "never", "any"]:
                self.fails(UnknownName, {"name": value}, least_with, r, ["self", value, "x"])
        for words in ([], ["self"], ["through", "both"]):
            self.fails(NotSquare, {}, least_with, no_pair(["a", "b"], ["b", "a"]), words)


class Required(Case):
    def test_first_kind_and_first_fault(self):
        r = Relation(["b", "a"], ["c", "d"], [("b", "d"), ("b", "c")])
        self.fails(NotOfKind, {"word": "one", "members": ("b", "c", "d")}, require_kinds, r, ("one", "each"))
        self.fails(NotOfKind, {"word": "each", "members": ("a",)}, require_kinds, r, ("each", "one"))
        self.assertIsNone(require_kinds(r, ("onto", "apart")))
        self.assertIsNone(require_kinds(every_pair(["a"], ["a"]), GENERAL + ["self", "both"]))


if __name__ == "__main__":
    unittest.main()
