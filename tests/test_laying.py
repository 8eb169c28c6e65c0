"""Rows, rings, layers and chains (S2.6)."""

import itertools
import unittest

from pairlaws.closing import closed
from pairlaws.errors import ComesRound, NotSquare
from pairlaws.laying import count_rows, few_chains, judge_laid, laid, layers, longest_chain, most_apart, thinned
from pairlaws.relations import Relation, every_pair, no_pair, other_pairs, same_pairs
from tests.support import Case, chance_relations, names_of, square_relations

NOT_SQUARE = [no_pair(["a", "b"], ["b", "a"]), no_pair(["a"], []), no_pair([], ["a"])]
FIVE = [thinned, layers, longest_chain, few_chains, most_apart]


def is_row(r, names):
    if sorted(names) != sorted(r.sources()):
        return False
    return all([names.index(x) < names.index(y) for x, y in r.pairs() if x != y])


def is_ring(r, names):
    if len(names) < 2 or len(set(names)) < len(names):
        return False
    return all([pair in r for pair in zip(names, [*names[1:], names[0]])])


def rows(r):
    return [list(names) for names in itertools.permutations(r.sources()) if is_row(r, list(names))]


def without_rings(most):
    return [r for r in square_relations(most) if rows(r)]


def large_ones_without_rings():
    names = names_of(8)
    forward = Relation(names, names, [(x, y) for at, x in enumerate(names) for y in names[at + 1:]])
    some = sorted(names)
    back = Relation(names, names, [(x, y) for at, x in enumerate(some) for y in some[:at]])
    for number, r in enumerate(chance_relations(names, names, 80, 19)):
        loops = same_pairs(names) if number % 3 == 0 else no_pair(names, names)
        yield (r & (forward if number % 2 else back)) | loops


class Laid(Case):
    def check(self, r):
        found = self.unchanged(laid, r)
        self.assertIsInstance(found, tuple)
        self.assertIsInstance(found[1], list)
        self.assertTrue(is_row(r, found[1]) if found[0] == "row" else found[0] == "ring" and is_ring(r, found[1]))
        self.assertIs(judge_laid(r, found), True)
        return found

    def test_small_ones(self):
        for r in square_relations(3):
            self.assertEqual(self.check(r)[0] == "row", bool(rows(r)))
            self.assertEqual(self.unchanged(count_rows, r), len(rows(r)))

    def test_large_ones(self):
        for r in large_ones_without_rings():
            self.assertEqual(self.check(r)[0], "row")
        for r in chance_relations(names_of(8), names_of(8), 80, 20):
            self.check(r)
        names = [f"n{k}" for k in range(64)]
        self.check(Relation(names, names, list(zip(names, names[1:]))))
        self.check(Relation(names, names, list(zip(names, [*names[1:], names[5]]))))

    def test_count_rows(self):
        for r in list(large_ones_without_rings())[:6]:
            self.assertEqual(count_rows(r), len(rows(r)))
        self.assertEqual(count_rows(Relation([], [], [])), 1)
        self.assertEqual(count_rows(every_pair(["a"], ["a"])), 1)
        self.assertEqual(count_rows(same_pairs(names_of(8))), 40320)
        self.assertEqual(count_rows(other_pairs(["a", "b"])), 0)

    def test_judge_laid(self):
        for r in square_relations(3):
            for count in range(len(r.sources()) + 2):
                for names in itertools.product(r.sources(), repeat=count):
                    for told in (names, list(names)):
                        self.assertIs(judge_laid(r, ("row", told)), is_row(r, list(names)))
                        self.assertIs(judge_laid(r, ("ring", told)), is_ring(r, list(names)))

    def test_judge_laid_any_value(self):
        r = Relation(["a", "b", "c"], ["a", "b", "c"], [("a", "b"), ("b", "a"), ("c", "c")])
        self.judged(judge_laid, [r], [("ring", ["a", "b"]), ("ring", ("b", "a"))])
        for value in (["ring", ["a", "b"]], ("ring", ["a", "b"], None), ("ring", ["c"]), ("ring", ["a", "b", "a", "b"]),
                      ("ring", "ab"), ("rings", ["a", "b"]), (None, ["a", "b"]), (["ring"], ["a", "b"]),
                      ("ring", ["a", ["b"]]), ("ring", {"a": 1, "b": 2}), ("row", ["a", "b", "c"]), ("ring", [])):
            self.assertIs(judge_laid(r, value), False)
        self.judged(judge_laid, [Relation([], [], [])], [("row", []), ("row", ())])

    def test_not_square(self):
        for r in NOT_SQUARE:
            for call in (laid, count_rows, *FIVE):
                self.fails(NotSquare, {}, call, r)
            self.fails(NotSquare, {}, judge_laid, r, None)

    def test_new_lists(self):
        r = same_pairs(["a", "b"])
        laid(r)[1].clear()
        for call in (layers, few_chains):
            call(r)[0].clear()
        for call in (longest_chain, most_apart):
            call(r).clear()
        self.assertEqual(laid(r), ("row", ["a", "b"]))


class WithoutRings(Case):
    def test_comes_round(self):
        for r in [*square_relations(3), *chance_relations(names_of(8), names_of(8), 30, 21)]:
            if laid(r)[0] == "ring":
                for call in FIVE:
                    with self.assertRaises(ComesRound) as caught:
                        call(r)
                    self.assertIsInstance(caught.exception.members, tuple)
                    self.assertTrue(is_ring(r, list(caught.exception.members)))

    def test_thinned(self):
        for r in without_rings(3):
            made = self.unchanged(thinned, r)
            alike = [s for s in square_relations(3) if s.sources() == r.sources()
                     and not any([(x, x) in s for x in s.sources()]) and rows(s) == rows(r)]
            self.assertIn(made, alike)
            self.assertTrue(all([made <= s for s in alike]))

    def test_thinned_large_ones(self):
        for r in large_ones_without_rings():
            reach = closed(r) & other_pairs(r.sources())
            self.assertEqual(closed(thinned(r)), reach)
            for x, y in thinned(r).pairs():
                self.assertFalse([z for z in r.sources() if (x, z) in reach and (z, y) in reach])

    def depths(self, r):
        steps = r & other_pairs(r.sources())
        depth = {x: 0 for x in r.sources()}
        for _ in r.sources():
            depth = {y: max([depth[x] + 1 for x in steps.column(y)], default=0) for y in r.sources()}
        return depth

    def check(self, r):
        names, reach, depth = r.sources(), closed(r), self.depths(r)
        found = self.unchanged(layers, r)
        high = max(depth.values(), default=-1) + 1
        self.assertEqual(found, [[x for x in names if depth[x] == level] for level in range(high)])
        chain = self.unchanged(longest_chain, r)
        self.assertEqual(len(chain), len(found))
        chains, apart = self.unchanged(few_chains, r), self.unchanged(most_apart, r)
        for one in [*chains, *([chain] if chain else [])]:
            self.assertTrue(one)
            self.assertTrue(all([x != y and (x, y) in reach for x, y in zip(one, one[1:])]))
        self.assertEqual(sorted([x for one in chains for x in one]), sorted(names))
        self.assertEqual(apart, [x for x in names if x in apart])
        self.assertFalse([(x, y) for x in apart for y in apart if x != y and (x, y) in reach])
        # Equally many: so the chains are as few, and the names apart as many, as can be.
        self.assertEqual(len(chains), len(apart))

    def test_layers_and_chains(self):
        for r in [*without_rings(3), *large_ones_without_rings()]:
            self.check(r)
        names = [f"n{k}" for k in range(64)]
        self.check(Relation(names, names, list(zip(names, names[2:])) + list(zip(names, names[5:]))))

    def test_no_names(self):
        r = Relation([], [], [])
        self.assertEqual([call(r) for call in FIVE], [r, [], [], [], []])


if __name__ == "__main__":
    unittest.main()
