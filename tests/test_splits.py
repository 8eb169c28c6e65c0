"""Splits, matchings of classes, zigzags, pens, crosses and heights (S2.4, S2.5)."""

import itertools
import unittest

from pairlaws.errors import BadSplit, NotOfKind, UnknownName
from pairlaws.kinds import has_kind, is_function
from pairlaws.partings import kernel
from pairlaws.relations import Relation, every_pair, no_pair, same_pairs
from pairlaws.residuals import under
from pairlaws.sizes import best_pairing, least_touch
from pairlaws.splits import (between_splits, blocks, cross, heights, is_split, judge_heights, judge_pen, judge_zigzag,
                             least_matching, onto_then_apart, pair_split, pen, zigzag)
from tests.support import NOT_WORDS, ODD_VALUES, Case, chance_relations, names_of, relations_between, small_relations


def functions(sources, targets):
    return [r for r in relations_between(sources, targets) if is_function(r)]


def told(r):
    return (r.sources(), r.targets(), r.pairs())


NO_FUNCTIONS = [(Relation(["b", "a"], ["c"], [("b", "c")]), "each", ("a",)),
                (Relation(["b", "a"], ["d", "c"], [("b", "c"), ("a", "c"), ("a", "d")]), "one", ("a", "d", "c"))]


class Splits(Case):
    def test_onto_then_apart(self):
        for sources, targets in (([], []), ([], ["a"]), (["c", "a", "b"], ["a", "z"]), (["a", "b"], ["x", "b", "a"])):
            for f in functions(sources, targets):
                g, h = self.unchanged(onto_then_apart, f)
                middle = [y for y in targets if f.column(y)]
                self.assertEqual((told(g), told(h)), ((sources, middle, f.pairs()),
                                                      (middle, targets, [(y, y) for y in middle])))
                self.assertIs(is_split(f, (g, h)), True)

    def test_is_split(self):
        middles = [[], ["m"], ["n", "m"], ["a", "b"]]
        for f in functions(["b", "a"], ["a", "c"]):
            for middle in middles:
                for g in relations_between(["b", "a"], middle):
                    for h in relations_between(middle, ["a", "c"]):
                        right = is_function(g) and is_function(h) and g >> h == f
                        right = right and has_kind(g, "onto") and has_kind(h, "apart")
                        self.assertIs(self.unchanged(is_split, f, (g, h)), right)

    def test_is_split_any_value(self):
        f = Relation(["b", "a"], ["a", "c"], [("b", "c"), ("a", "c")])
        g, h = onto_then_apart(f)
        self.judged(is_split, [f], [(g, h)])
        for value in ([g, h], (g, h, h), (g,), (h, g), (g, None), (None, h), (g, h.turned()), ((g, h),),
                      (Relation(["a", "b"], ["c"], [("b", "c"), ("a", "c")]), h),
                      (g, Relation(["c"], ["c", "a"], [("c", "c")])), (g, Relation(["m"], ["a", "c"], [("m", "c")]))):
            self.assertIs(is_split(f, value), False)

    def test_between_splits(self):
        f = Relation(["d", "b", "a"], ["x", "y", "z"], [("d", "z"), ("b", "x"), ("a", "z")])
        splits = [onto_then_apart(f)]
        for m, n in (("m", "n"), ("z", "x"), ("n", "m")):
            splits.append((Relation(f.sources(), [m, n], [("d", m), ("b", n), ("a", m)]),
                           Relation([m, n], f.targets(), [(m, "z"), (n, "x")])))
        for one, other in itertools.product(splits, repeat=2):
            made = self.unchanged(between_splits, f, one, other)
            self.assertEqual((made.sources(), made.targets()), (one[0].targets(), other[0].targets()))
            self.assertTrue(all([has_kind(made, word) for word in ("each", "one", "onto", "apart")]))
            self.assertEqual((one[0] >> made, made >> other[1]), (other[0], one[1]))

    def test_between_splits_of_nothing(self):
        f = no_pair([], ["a"])
        split = onto_then_apart(f)
        self.assertEqual(between_splits(f, split, split), no_pair([], []))

    def test_errors(self):
        for f, word, members in NO_FUNCTIONS:
            self.fails(NotOfKind, {"word": word, "members": members}, onto_then_apart, f)
            self.fails(NotOfKind, {"word": word, "members": members}, is_split, f, None)
            self.fails(NotOfKind, {"word": word, "members": members}, between_splits, f, None, None)
        f = Relation(["b", "a"], ["a", "c"], [("b", "c"), ("a", "c")])
        split = onto_then_apart(f)
        for value in ODD_VALUES + [list(split), split[::-1]]:
            self.fails(BadSplit, {}, between_splits, f, value, split)
            self.fails(BadSplit, {}, between_splits, f, split, value)

    def test_split_of_another_function(self):
        f = Relation(["b", "a"], ["a", "c"], [("b", "c"), ("a", "c")])
        other = onto_then_apart(Relation(["b", "a"], ["a", "c"], [("b", "a"), ("a", "c")]))
        self.assertIs(is_split(f, other), False)
        self.fails(BadSplit, {}, between_splits, f, other, onto_then_apart(f))


class PairSplit(Case):
    def check(self, r):
        f, g = self.unchanged(pair_split, r)
        words = [f"p{number}" for number in range(len(r))]
        self.assertEqual(told(f), (words, r.sources(), [(word, x) for word, (x, _) in zip(words, r.pairs())]))
        self.assertEqual(told(g), (words, r.targets(), [(word, y) for word, (_, y) in zip(words, r.pairs())]))
        self.assertEqual(f.turned() >> g, r)

    def test_all(self):
        for r in small_relations():
            self.check(r)
        for r in chance_relations(names_of(8), names_of(7), 20, 15):
            self.check(r)

    def test_what_it_makes_may_be_passed(self):
        f, g = pair_split(every_pair(names_of(8), names_of(8)))
        self.check(f)
        self.check(f >> f.turned())
        self.assertEqual(len(f >> g.turned()), 64 * 8)
        self.assertEqual(f.turned() >> g, every_pair(names_of(8), names_of(8)))
        self.assertEqual(kernel(f), f >> f.turned())
        self.assertTrue(is_split(f, onto_then_apart(f)))
        self.assertEqual(len(best_pairing(f)), 8)
        self.assertEqual(least_touch(f), ([], names_of(8)))
        self.assertEqual(len(blocks(f)), 8)
        self.assertEqual(under(f, f), same_pairs(names_of(8)))


def links(r, x):
    """For each target that a zigzag from x reaches, the least number of names of such a zigzag."""
    found, border, count = {}, [x], 2
    while border:
        new = [y for y in r.targets() if y not in found and any([(u, y) in r for u in border])]
        found.update({y: count for y in new})
        border = [u for u in r.sources() if any([(u, y) in r for y in new])]
        count += 2
    return found


class Matchings(Case):
    def test_least_matching(self):
        for r in small_relations():
            made = self.unchanged(least_matching, r)
            pairs = [(x, y) for x in r.sources() for y in r.targets() if y in links(r, x)]
            self.assertEqual(made, Relation(r.sources(), r.targets(), pairs))
            self.assertTrue(r <= made and made >> made.turned() >> made <= made)

    def test_least_of_all(self):
        relations = list(relations_between(["b", "a"], ["a", "c", "b"]))
        matchings = [m for m in relations if m >> m.turned() >> m <= m]
        for r in relations:
            made = least_matching(r)
            self.assertTrue(made in matchings and all([made <= m for m in matchings if r <= m]))

    def test_blocks(self):
        for r in [*small_relations(), *chance_relations(names_of(8), names_of(8), 60, 16)]:
            made = least_matching(r)
            found = self.unchanged(blocks, r)
            expected = []
            for x in r.sources():
                some = [u for u in r.sources() if made.row(u) == made.row(x)]
                if made.row(x) and some[0] == x:
                    expected.append((some, made.row(x)))
            self.assertEqual(found, expected)

    def test_blocks_are_new(self):
        r = same_pairs(["a", "b"])
        for some, others in blocks(r):
            some.clear()
            self.assertEqual(len(others), 1)
            others.clear()
        self.assertEqual(blocks(r), [(["a"], ["a"]), (["b"], ["b"])])


class Zigzags(Case):
    def check(self, r):
        for x in r.sources():
            counts = links(r, x)
            for y in r.targets():
                names, found = self.unchanged(zigzag, r, x, y), self.unchanged(pen, r, x, y)
                if y in counts:
                    self.assertEqual(len(names), counts[y])
                    self.assertIsInstance(names, list)
                    self.assertIs(judge_zigzag(r, x, y, names), True)
                    self.assertIsNone(found)
                else:
                    self.assertIsNone(names)
                    some, others = found
                    self.assertEqual(some, [u for u in r.sources() if u in some])
                    self.assertEqual(others, [v for v in r.targets() if v in others])
                    self.assertIs(judge_pen(r, x, y, found), True)

    def test_zigzag_or_pen(self):
        for r in [*small_relations(), *chance_relations(names_of(8), names_of(8), 30, 17)]:
            self.check(r)
        # One long zigzag.
        names = names_of(8)
        self.check(Relation(names, names, [(x, x) for x in names] + list(zip(names[1:], names))))

    def test_judge_zigzag(self):
        for r in relations_between(["a", "b"], ["b", "c"]):
            for count in range(6):
                for value in itertools.product(["a", "b", "c"], repeat=count):
                    # As told: x, y1, x1, y2, ..., y.
                    right = count >= 2 and count % 2 == 0
                    right = right and all([(value[k], value[k + 1]) in r for k in range(0, count, 2)])
                    right = right and all([(value[k + 1], value[k]) in r for k in range(1, count - 1, 2)])
                    for x, y in itertools.product(["a", "b"], ["b", "c"]):
                        ends = right and value[0] == x and value[-1] == y
                        self.assertIs(judge_zigzag(r, x, y, value), ends)
                        self.assertIs(judge_zigzag(r, x, y, list(value)), ends)

    def test_judge_zigzag_any_value(self):
        r = every_pair(["a"], ["b"])
        self.judged(judge_zigzag, [r, "a", "b"], [["a", "b"], ("a", "b"), ["a", "b", "a", "b"]])
        for value in (["a", "b", "b"], ["a", None, None, "b"], ["a", ["b"], ["a"], "b"], "ab", {"a": 1, "b": 2}):
            self.assertIs(judge_zigzag(r, "a", "b", value), False)

    def test_judge_pen(self):
        for r in small_relations():
            if len(r.sources()) == 2 and len(r.targets()) == 2:
                for x, y in itertools.product(r.sources(), r.targets()):
                    for some, others in itertools.product(lists_of(r.sources()), lists_of(r.targets())):
                        right = x in some and y not in others
                        right = right and all([(u in some) == (v in others) for u, v in r.pairs()])
                        self.assertIs(judge_pen(r, x, y, (some, others)), right)
                        self.assertIs(judge_pen(r, x, y, (tuple(some), tuple(others))), right)

    def test_judge_pen_any_value(self):
        r = Relation(["a", "b"], ["c", "d"], [("b", "d")])
        self.judged(judge_pen, [r, "a", "c"], [(["a"], []), (("a",), ()), (["b", "a"], ["d"]), (["a", "b"], ["d"])])
        for value in ([["a"], []], (["a"], [], []), (["a", "a"], []), (["a", "b"], ["d", "d"]), (["a", "q"], []),
                      (["a"], ["q"]), (["a", None], []), (["a"], [["d"]]), ("a", ""), (["a"], None), ({"a": 1}, {})):
            self.assertIs(judge_pen(r, "a", "c", value), False)

    def test_unknown_names(self):
        r = Relation(["a", "b"], ["b", "c"], [])
        for value in NOT_WORDS + ["c"]:
            for call in (zigzag, pen):
                self.fails(UnknownName, {"name": value}, call, r, value, "q")
            for call in (judge_zigzag, judge_pen):
                self.fails(UnknownName, {"name": value}, call, r, value, "q", None)
        for value in NOT_WORDS + ["a"]:
            for call in (zigzag, pen):
                self.fails(UnknownName, {"name": value}, call, r, "b", value)
            for call in (judge_zigzag, judge_pen):
                self.fails(UnknownName, {"name": value}, call, r, "b", value, None)


def lists_of(names):
    return [list(chosen) for count in range(len(names) + 1) for chosen in itertools.permutations(names, count)]


class Crosses(Case):
    def check(self, r):
        xs, ys = r.sources(), r.targets()
        crosses = [(x, y, u, v) for x in xs for y in ys for u in xs for v in ys
                   if (x, y) in r and (u, v) in r and (x, v) not in r and (u, y) not in r]
        self.assertEqual(self.unchanged(cross, r), crosses[0] if crosses else None)
        found = self.unchanged(heights, r)
        if crosses:
            self.assertIsNone(found)
        else:
            of_sources, of_targets = found
            self.assertEqual((list(of_sources), list(of_targets)), (xs, ys))
            for x, y in itertools.product(xs, ys):
                self.assertEqual((x, y) in r, of_sources[x] >= of_targets[y])
            self.assertIs(judge_heights(r, found), True)

    def test_small_ones(self):
        for r in small_relations():
            self.check(r)
        for r in relations_between(["c", "a", "b"], ["a", "c", "d"]):
            self.check(r)

    def test_large_ones(self):
        names = names_of(8)
        for seed in range(20):
            levels = [(seed * 7 + k * k * 3) % 5 for k in range(8)]
            pairs = [(x, y) for x, high in zip(names, levels) for k, y in enumerate(names) if high >= k % 6]
            self.check(Relation(names, names, pairs))
        for r in chance_relations(names, names_of(6), 40, 18):
            self.check(r)

    def test_heights_are_new(self):
        r = same_pairs(["a"])
        one, other = heights(r)
        self.assertIsNot(one, other)
        one.clear()
        other.clear()
        self.assertIs(judge_heights(r, heights(r)), True)
        self.assertIs(judge_heights(no_pair([], []), heights(no_pair([], []))), True)

    def test_judge_heights(self):
        r = Relation(["a", "b"], ["a", "c"], [("a", "a"), ("a", "c"), ("b", "a")])
        for numbers in itertools.product([-1, 0, 5], repeat=4):
            a, b, low, high = numbers
            right = a >= low and a >= high and b >= low and b < high
            self.assertIs(judge_heights(r, ({"a": a, "b": b}, {"c": high, "a": low})), right)

    def test_judge_heights_any_value(self):
        r = every_pair(["a"], ["b"])
        self.judged(judge_heights, [r], [({"a": 1}, {"b": 1}), ({"a": 10 ** 30}, {"b": -1})])
        for value in ([{"a": 1}, {"b": 1}], ({"a": 1}, {"b": 1}, {}), ({"a": True}, {"b": 1}), ({"a": 1}, {"b": False}),
                      ({"a": 1, "b": 1}, {"b": 1}), ({"a": 1}, {}), ({"a": 1}, {"a": 1}), ({"a": "1"}, {"b": "1"}),
                      ({"a": None}, {"b": 1}), ({"a": 0}, {"b": 1}), ([("a", 1)], [("b", 1)]), ({1: 1}, {"b": 1})):
            self.assertIs(judge_heights(r, value), False)
        self.judged(judge_heights, [no_pair([], [])], [({}, {})])


if __name__ == "__main__":
    unittest.main()
