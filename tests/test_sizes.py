"""Counts, pairings, touches and lacks (S1.5, S1.6)."""

import itertools
import unittest

from pairlaws.errors import UnknownName
from pairlaws.relations import Relation, every_pair, same_pairs
from pairlaws.sizes import (best_pairing, column_counts, judge_pairing, judge_touch, least_touch, reached, row_counts,
                            sources_with, targets_had, worst_lack)
from tests.support import NOT_WORDS, Case, chance_relations, names_of, small_relations


def subsets(names):
    for count in range(len(names) + 1):
        for chosen in itertools.combinations(names, count):
            yield list(chosen)


def is_pairing(pairs):
    return len({x for x, _ in pairs}) == len(pairs) == len({y for _, y in pairs})


def covers(r, xs, ys):
    return all([x in xs or y in ys for x, y in r.pairs()])


def lack(r, xs):
    return len(xs) - len({y for x, y in r.pairs() if x in xs})


class Counts(Case):
    def test_all(self):
        for r in small_relations():
            rows = [[y for y in r.targets() if (x, y) in r] for x in r.sources()]
            columns = [[x for x in r.sources() if (x, y) in r] for y in r.targets()]
            self.assertEqual(self.unchanged(row_counts, r), [len(row) for row in rows])
            self.assertEqual(self.unchanged(column_counts, r), [len(column) for column in columns])
            self.assertEqual(self.unchanged(sources_with, r), [x for x, row in zip(r.sources(), rows) if row])
            self.assertEqual(self.unchanged(targets_had, r), [y for y, column in zip(r.targets(), columns) if column])

    def test_reached(self):
        for r in small_relations():
            for names in subsets(r.sources()):
                found = [y for y in r.targets() if any([(x, y) in r for x in names])]
                for told in (names, names[::-1], tuple(names), names + names):
                    self.assertEqual(self.unchanged(reached, r, told), found)

    def test_reached_unknown(self):
        r = Relation(["a", "b"], ["c"], [("a", "c")])
        for value in NOT_WORDS + ["c"]:
            self.fails(UnknownName, {"name": value}, reached, r, ["a", value, "x"])


class Best(Case):
    def check(self, r):
        pairing, touch, lacking = best_pairing(r), least_touch(r), worst_lack(r)
        self.assertTrue(is_pairing(pairing))
        self.assertEqual(pairing, [pair for pair in r.pairs() if pair in pairing])
        xs, ys = touch
        self.assertEqual(xs, [x for x in r.sources() if x in xs])
        self.assertEqual(ys, [y for y in r.targets() if y in ys])
        self.assertTrue(covers(r, xs, ys))
        # Equally many: so the pairing is best and the touch is least.
        self.assertEqual(len(xs) + len(ys), len(pairing))
        self.assertEqual(lacking, [x for x in r.sources() if x in lacking])
        self.assertEqual(lack(r, lacking), len(r.sources()) - len(pairing))
        self.assertIs(judge_pairing(r, pairing), True)
        self.assertIs(judge_touch(r, touch), True)

    def test_small_ones(self):
        for r in small_relations():
            self.check(r)
            most = max([len(pairs) for pairs in subsets(r.pairs()) if is_pairing(pairs)])
            self.assertEqual(len(best_pairing(r)), most)
            self.assertEqual(lack(r, worst_lack(r)), max([lack(r, xs) for xs in subsets(r.sources())]))

    def test_large_ones(self):
        for sources, targets in ((8, 8), (8, 5), (5, 8)):
            for r in chance_relations(names_of(sources), names_of(targets), 60, 8):
                self.check(r)

    def test_full_and_empty(self):
        names = names_of(8)
        self.assertEqual(len(best_pairing(every_pair(names, names))), 8)
        self.assertEqual(best_pairing(same_pairs(names)), [(x, x) for x in names])
        self.assertEqual((best_pairing(Relation([], [], [])), least_touch(Relation([], [], []))), ([], ([], [])))
        self.assertEqual(worst_lack(Relation(["b", "a"], ["a"], [])), ["b", "a"])
        self.check(every_pair([f"n{k}" for k in range(64)], [f"m{k}" for k in range(60)]))

    def test_paths_of_any_length(self):
        # Each new source takes the target of the one before it, which must then move on.
        names = [f"n{k}" for k in range(64)]
        pairs = [(x, names[max(k - 1, 0)]) for k, x in enumerate(names)] + [(x, x) for x in names]
        r = Relation(names, names[::-1], pairs)
        self.check(r)
        self.assertEqual(len(best_pairing(r)), 64)

    def test_new_lists(self):
        r = same_pairs(["a", "b"])
        for call in (best_pairing, worst_lack, row_counts, sources_with, targets_had):
            call(r).clear()
        xs, ys = least_touch(r)
        self.assertIsNot(xs, ys)
        xs.clear()
        ys.clear()
        self.assertEqual((r, len(best_pairing(r))), (same_pairs(["a", "b"]), 2))


class Judges(Case):
    def test_pairings(self):
        for r in small_relations():
            spots = [(x, y) for x in r.sources() for y in r.targets()]
            if len(spots) <= 4:
                for pairs in subsets(spots):
                    right = is_pairing(pairs) and all([pair in r for pair in pairs])
                    self.assertIs(judge_pairing(r, pairs), right)
                    self.assertIs(judge_pairing(r, tuple(pairs)), False)

    def test_pairings_of_wrong_form(self):
        r = Relation(["b", "a"], ["c", "b"], [("a", "c"), ("b", "b"), ("b", "c")])
        right = [[], [("b", "b")], [("a", "c")], [("b", "c")], [("b", "b"), ("a", "c")]]
        self.judged(judge_pairing, [r], right)
        for value in ([("a", "c"), ("b", "b")], [("b", "b"), ("b", "b")], [["b", "b"]], [("b", "b"), None], ("b", "b"),
                      [("b", "b", "b")], [("b", "c"), ("a", "c")], {("b", "b"): 1}, [("a", "b")]):
            self.assertIs(judge_pairing(r, value), False)

    def test_touches(self):
        for r in small_relations():
            for xs in subsets(r.sources()):
                for ys in subsets(r.targets()):
                    self.assertIs(judge_touch(r, (xs, ys)), covers(r, xs, ys))
                    for value in ([xs, ys], (tuple(xs), ys), (xs, tuple(ys)), (xs, ys, []), (xs,)):
                        self.assertIs(judge_touch(r, value), False)

    def test_touches_of_wrong_form(self):
        r = Relation(["b", "a"], ["c", "b"], [("a", "c"), ("b", "b"), ("b", "c")])
        right = [(["b", "a"], []), ([], ["c", "b"]), (["b"], ["c"]), (["b", "a"], ["b"])]
        self.judged(judge_touch, [r], right)
        for value in ((["a", "b"], []), ([], ["b", "c"]), (["b", "b", "a"], []), (["b", "a", None], []),
                      (["b", "a"], [["c"]]), (["b", "a"], None), (["b", "a", "c"], []), (["b"], ["c", "c"]),
                      ({"b": 1, "a": 1}, []), (["a"], []), ("ba", []), (None, []), (5, ["c", "b"]), (["b", "a"], 5)):
            self.assertIs(judge_touch(r, value), False)
        self.judged(judge_touch, [Relation([], [], [])], [([], [])])


if __name__ == "__main__":
    unittest.main()
