"""Closures, walks, shut sets and knots (S2.1)."""

import itertools
import unittest

from pairlaws.closing import closed, judge_shut, judge_walk, knots, shut, walk, walked
from pairlaws.errors import NotSquare, UnknownName
from pairlaws.relations import Relation, every_pair, no_pair, same_pairs
from tests.support import NOT_WORDS, Case, chance_relations, names_of, square_relations

NOT_SQUARE = [Relation(["a", "b"], ["b", "a"], []), Relation(["a"], [], []), Relation([], ["a"], []),
              Relation(["a"], ["a", "b"], [])]


def steps_to(r, x):
    """How many pairs a shortest walk from x has, for each name that a walk reaches."""
    found, border, count = {}, r.row(x), 1
    while border:
        found.update({z: count for z in border})
        border = [z for z in r.sources() if z not in found and any([(y, z) in r for y in border])]
        count += 1
    return found


class Closures(Case):
    def check(self, r):
        names = r.sources()
        pairs = [(x, y) for x in names for y in names if y in steps_to(r, x)]
        self.assertEqual(self.unchanged(closed, r), Relation(names, names, pairs))
        self.assertEqual(self.unchanged(walked, r), Relation(names, names, pairs + [(x, x) for x in names]))

    def test_small_ones(self):
        for r in square_relations(3):
            self.check(r)

    def test_large_ones(self):
        for r in chance_relations(names_of(8), names_of(8), 50, 9):
            self.check(r & r.turned())
            self.check(r)
        names = [f"n{k}" for k in range(64)]
        self.check(Relation(names, names, [(x, y) for x, y in zip(names, names[1:])]))

    def test_least(self):
        for r in square_relations(2):
            for s in square_relations(2):
                if r.sources() == s.sources() and r <= s and s >> s <= s:
                    self.assertTrue(closed(r) <= s)
                    self.assertEqual(walked(r) <= s, same_pairs(r.sources()) <= s)

    def test_not_square(self):
        for r in NOT_SQUARE:
            for call in (closed, walked, knots):
                self.fails(NotSquare, {}, call, r)
            for call in (walk, shut):
                self.fails(NotSquare, {}, call, r, "a", "b")
                self.fails(NotSquare, {}, call, r, None, ["q"])
            for call in (judge_walk, judge_shut):
                self.fails(NotSquare, {}, call, r, "q", None, [])


class Walks(Case):
    def check(self, r):
        for x in r.sources():
            counts = steps_to(r, x)
            for y in r.sources():
                names, shut_names = self.unchanged(walk, r, x, y), self.unchanged(shut, r, x, y)
                if y in counts:
                    self.assertIsInstance(names, list)
                    self.assertEqual(len(names), counts[y] + 1)
                    self.assertIs(judge_walk(r, x, y, names), True)
                    self.assertIsNone(shut_names)
                else:
                    self.assertIsNone(names)
                    self.assertEqual(shut_names, [z for z in r.sources() if z in shut_names])
                    self.assertIs(judge_shut(r, x, y, shut_names), True)

    def test_walk_or_shut(self):
        for r in square_relations(3):
            self.check(r)
        for r in chance_relations(names_of(8), names_of(8), 40, 10):
            self.check(r)

    def test_walk_back_to_its_beginning(self):
        r = Relation(["a", "b", "c"], ["a", "b", "c"], [("a", "b"), ("b", "a"), ("c", "c")])
        self.assertEqual(walk(r, "a", "a"), ["a", "b", "a"])
        self.assertEqual(walk(r, "c", "c"), ["c", "c"])
        self.assertIsNone(walk(no_pair(["a"], ["a"]), "a", "a"))
        self.assertEqual(shut(no_pair(["a"], ["a"]), "a", "a"), [])

    def test_judge_walk(self):
        for r in square_relations(2):
            for x, y in itertools.product(r.sources(), repeat=2):
                for count in range(5):
                    for value in itertools.product([*r.sources(), "q"], repeat=count):
                        right = count > 1 and value[0] == x and value[-1] == y
                        right = right and all([pair in r for pair in zip(value, value[1:])])
                        self.assertIs(judge_walk(r, x, y, value), right)
                        self.assertIs(judge_walk(r, x, y, list(value)), right)

    def test_judge_walk_any_value(self):
        r = every_pair(["a", "b"], ["a", "b"])
        self.judged(judge_walk, [r, "a", "b"], [["a", "b"], ("a", "b"), ["a", "b", "a", "b"], ["a", "a", "b", "b"]])
        for value in (["a", None, "b"], ["a", ["a"], "b"], "ab", {"a": 1, "b": 2}, ["a"], [["a"], "b"], ["b", "b"]):
            self.assertIs(judge_walk(r, "a", "b", value), False)

    def test_judge_shut(self):
        for r in square_relations(3):
            for x, y in itertools.product(r.sources(), repeat=2):
                for count in range(len(r.sources()) + 1):
                    for value in itertools.permutations(r.sources(), count):
                        right = y not in value and all([z in value for z in r.row(x)])
                        right = right and all([z in value for name in value for z in r.row(name)])
                        self.assertIs(judge_shut(r, x, y, value), right)
                        self.assertIs(judge_shut(r, x, y, list(value)), right)

    def test_judge_shut_any_value(self):
        r = Relation(["a", "b", "c"], ["a", "b", "c"], [("a", "c")])
        self.judged(judge_shut, [r, "a", "b"], [["c"], ("c",), ["a", "c"], ["c", "a"], ("c", "a")])
        for value in (["c", "c"], ["c", "q"], ["c", None], ["c", ["c"]], "c", {"c": 1}, ["b", "c"], [], ["a"]):
            self.assertIs(judge_shut(r, "a", "b", value), False)
        empty = no_pair(["a", "b"], ["a", "b"])
        self.judged(judge_shut, [empty, "a", "a"], [[], (), ["b"], ("b",)])

    def test_unknown_names(self):
        r = same_pairs(["a", "b"])
        for value in NOT_WORDS + ["c"]:
            for call in (walk, shut):
                self.fails(UnknownName, {"name": value}, call, r, value, "q")
                self.fails(UnknownName, {"name": value}, call, r, "a", value)
            for call in (judge_walk, judge_shut):
                self.fails(UnknownName, {"name": value}, call, r, value, "q", None)
                self.fails(UnknownName, {"name": value}, call, r, "a", value, None)

    def test_new_lists(self):
        r = Relation(["a", "b"], ["a", "b"], [("a", "a")])
        walk(r, "a", "a").clear()
        shut(r, "a", "b").clear()
        knots(r)[0].clear()
        self.assertEqual((walk(r, "a", "a"), shut(r, "a", "b"), knots(r)), (["a", "a"], ["a"], [["a"], ["b"]]))


class Knots(Case):
    def test_all(self):
        relations = [*square_relations(3), *chance_relations(names_of(8), names_of(8), 60, 11)]
        for r in relations:
            reach = {x: steps_to(r, x) for x in r.sources()}
            found = self.unchanged(knots, r)
            self.assertEqual(sorted([x for knot in found for x in knot]), sorted(r.sources()))
            self.assertEqual([knot[0] for knot in found], [x for x in r.sources() if x in [k[0] for k in found]])
            for knot in found:
                self.assertEqual(knot, [x for x in r.sources() if x in knot])
                for x in r.sources():
                    alike = x == knot[0] or (x in reach[knot[0]] and knot[0] in reach[x])
                    self.assertEqual(x in knot, alike)

    def test_empty(self):
        self.assertEqual(knots(Relation([], [], [])), [])
        self.assertEqual(knots(no_pair(["b", "a"], ["b", "a"])), [["b"], ["a"]])


if __name__ == "__main__":
    unittest.main()
