"""Partings, kernels and the targets of functions (S2.3)."""

import itertools
import unittest

from pairlaws.errors import BadName, MixedNames, NotOfKind, NotSquare, TooMany, TwiceTold, UnknownName
from pairlaws.kinds import is_parting
from pairlaws.partings import (all_partings, classes, cut_partings, joined_partings, kernel, least_parting, parting,
                               target_of)
from pairlaws.relations import Relation, every_pair, no_pair, same_pairs
from tests.support import NOT_WORDS, ODD_VALUES, Case, chance_relations, names_of, small_relations, square_relations

NOT_SQUARE = [no_pair(["a", "b"], ["b", "a"]), no_pair(["a"], []), no_pair([], ["a"])]
AB = ["a", "b"]
NO_PARTINGS = [
    (Relation(AB, AB, [("b", "b"), ("a", "b")]), "self", ("a",)),
    (Relation(AB, AB, [("a", "b")]), "self", ("a",)),
    (Relation(AB, AB, [("a", "a"), ("b", "b"), ("b", "a")]), "both", ("b", "a")),
    (every_pair(["a", "b", "c"], ["a", "b", "c"]) - Relation(["a", "b", "c"], ["a", "b", "c"], [("a", "c"), ("c", "a")]),
     "through", ("a", "b", "c")),
]


class Classes(Case):
    def test_all_partings_of_some_names(self):
        for r in [*square_relations(3), *all_partings(names_of(5))]:
            if is_parting(r):
                found = self.unchanged(classes, r)
                self.assertEqual(sorted([x for members in found for x in members]), sorted(r.sources()))
                self.assertEqual(found, sorted(found, key=lambda members: r.sources().index(members[0])))
                for members in found:
                    self.assertEqual(members, r.row(members[0]))
                self.assertEqual(parting(r.sources(), found), r)

    def test_errors(self):
        for r in NOT_SQUARE:
            self.fails(NotSquare, {}, classes, r)
        for r, word, members in NO_PARTINGS:
            self.fails(NotOfKind, {"word": word, "members": members}, classes, r)

    def test_new_lists(self):
        r = same_pairs(AB)
        classes(r)[0].clear()
        self.assertEqual(classes(r), [["a"], ["b"]])
        self.assertEqual(classes(Relation([], [], [])), [])


class Parting(Case):
    def test_lists(self):
        names = ["d", "a", "c", "b"]
        r = self.unchanged(parting, names, [["b", "a"], [], ["c"]])
        self.assertEqual(classes(r), [["d"], ["a", "b"], ["c"]])
        self.assertEqual(r.sources(), names)
        self.assertTrue(is_parting(r))
        self.assertEqual(parting(("d", "a", "c", "b"), (("b", "a"), (), ["c"])), r)
        self.assertEqual(parting(names, []), same_pairs(names))
        self.assertEqual(parting(names, [names]), every_pair(names, names))
        self.assertEqual(parting([], [[], []]), Relation([], [], []))

    def test_wrong_names(self):
        for name in NOT_WORDS:
            self.fails(BadName, {"name": name}, parting, ["a", "a", name], [["q"]])
        self.fails(TwiceTold, {"name": "a"}, parting, ["b", "a", "a"], [["q"]])

    def test_wrong_entries(self):
        for value in ODD_VALUES + ["q"]:
            self.fails(UnknownName, {"name": value}, parting, AB, [["a", "a"], [], ["b", value, "r"]])
        self.fails(TwiceTold, {"name": "a"}, parting, AB, [["a", "a"], ["b", "b"]])
        self.fails(TwiceTold, {"name": "b"}, parting, AB, [["a", "b"], [], ["b", "a"]])
        self.fails(TwiceTold, {"name": "b"}, parting, AB, [["a", "b"], ("b",)])


class Least(Case):
    def test_least_parting(self):
        partings = {count: all_partings(["n2", "n1", "n3"][:count]) for count in range(4)}
        for r in square_relations(3):
            made = self.unchanged(least_parting, r)
            above = [s for s in partings[len(r.sources())] if r <= s]
            self.assertIn(made, above)
            self.assertTrue(all([made <= s for s in above]))

    def test_not_square(self):
        for r in NOT_SQUARE:
            self.fails(NotSquare, {}, least_parting, r)

    def test_joined_and_cut(self):
        partings = all_partings(["b", "d", "a", "c"])
        for r, s in itertools.product(partings, repeat=2):
            joined, cut = self.unchanged(joined_partings, r, s), self.unchanged(cut_partings, r, s)
            self.assertIn(joined, partings)
            self.assertIn(cut, partings)
            for other in partings:
                self.assertEqual(r <= other and s <= other, joined <= other)
                self.assertEqual(other <= r and other <= s, other <= cut)

    def test_errors_of_two(self):
        fine = same_pairs(AB)
        for call in (joined_partings, cut_partings):
            for r in NOT_SQUARE:
                self.fails(NotSquare, {}, call, r, NO_PARTINGS[0][0])
                self.fails(NotSquare, {}, call, fine, r)
            for r, word, members in NO_PARTINGS:
                self.fails(NotOfKind, {"word": word, "members": members}, call, r, NOT_SQUARE[0])
                self.fails(NotOfKind, {"word": word, "members": members}, call, fine, r)
            for names in (["b", "a"], ["a"], []):
                self.fails(MixedNames, {}, call, fine, same_pairs(names))


def places_of_pairs(r):
    return [(r.sources().index(x), r.sources().index(y)) for x, y in r.pairs()]


class AllPartings(Case):
    def test_how_many_and_in_which_order(self):
        for count, many in enumerate([1, 1, 2, 5, 15, 52, 203]):
            names = names_of(count)
            found = self.unchanged(all_partings, names)
            places = [places_of_pairs(r) for r in found]
            self.assertEqual(len(found), many)
            self.assertEqual(places, sorted(places))
            self.assertEqual(len({tuple(one) for one in places}), many)
            self.assertTrue(all([is_parting(r) and r.sources() == names for r in found]))
        self.assertEqual(all_partings(("b", "a")), [every_pair(["b", "a"], ["b", "a"]), same_pairs(["b", "a"])])

    def test_errors(self):
        names = names_of(7)
        for name in NOT_WORDS:
            self.fails(BadName, {"name": name}, all_partings, [*names, names[0], name])
        self.fails(TwiceTold, {"name": names[0]}, all_partings, [*names, names[0]])
        self.fails(TooMany, {}, all_partings, names)
        self.fails(TooMany, {}, all_partings, names_of(8))


class Functions(Case):
    def test_kernel_and_targets(self):
        for r in small_relations():
            if all([len(r.row(x)) == 1 for x in r.sources()]):
                alike = [(x, u) for x in r.sources() for u in r.sources() if r.row(x) == r.row(u)]
                self.assertEqual(self.unchanged(kernel, r), Relation(r.sources(), r.sources(), alike))
                for x in r.sources():
                    self.assertEqual([self.unchanged(target_of, r, x)], r.row(x))

    def test_not_a_function(self):
        lacking = Relation(["b", "a", "c"], ["d", "e"], [("c", "e"), ("c", "d"), ("b", "d")])
        double = Relation(["b", "a"], ["d", "e"], [("b", "d"), ("a", "e"), ("a", "d")])
        for r, word, members in ((lacking, "each", ("a",)), (double, "one", ("a", "d", "e"))):
            self.fails(NotOfKind, {"word": word, "members": members}, kernel, r)
            self.fails(NotOfKind, {"word": word, "members": members}, target_of, r, "q")

    def test_not_a_source(self):
        f = Relation(["a"], ["b"], [("a", "b")])
        for value in ODD_VALUES + ["b"]:
            self.fails(UnknownName, {"name": value}, target_of, f, value)

    def test_large_function(self):
        for r in chance_relations(names_of(8), names_of(8), 1, 14):
            words = [f"p{number}" for number in range(len(r))]
            f = Relation(words, r.sources(), [(word, x) for word, (x, _) in zip(words, r.pairs())])
            self.assertEqual(sorted(len(members) for members in classes(kernel(f))),
                             sorted(len(r.row(x)) for x in r.sources() if r.row(x)))


if __name__ == "__main__":
    unittest.main()
