"""Relation, its operators, and the four relations that are made of names (S1.1 to S1.3)."""

import unittest

from pairlaws.errors import BadName, MixedNames, TwiceTold, UnknownName
from pairlaws.relations import Relation, every_pair, no_pair, other_pairs, same_pairs
from tests.support import NOT_WORDS, ODD_VALUES, Case, chance_relations, names_of, relations_between, small_relations


def told(r):
    return (r.sources(), r.targets(), r.pairs())


class Making(Case):
    def test_lists_and_order(self):
        r = self.unchanged(Relation, ["b", "a"], ["y", "x"], [("a", "x"), ("b", "x"), ("a", "y"), ("a", "x")])
        self.assertEqual(told(r), (["b", "a"], ["y", "x"], [("b", "x"), ("a", "y"), ("a", "x")]))

    def test_tuples_for_lists(self):
        r = Relation(("b", "a"), ("y",), (("a", "y"),))
        self.assertEqual(told(r), (["b", "a"], ["y"], [("a", "y")]))

    def test_empty(self):
        self.assertEqual(told(Relation([], [], [])), ([], [], []))
        self.assertEqual(told(Relation(["a"], [], [])), (["a"], [], []))

    def test_same_name_on_both_sides(self):
        self.assertEqual(told(Relation(["a", "b"], ["b", "a"], [("a", "a")])), (["a", "b"], ["b", "a"], [("a", "a")]))

    def test_words(self):
        words = ["a", "z", "a0", "z9", "abcdefghijkl", "a12345678901"]
        self.assertEqual(Relation(words, words, []).sources(), words)

    def test_bad_names(self):
        for name in NOT_WORDS:
            self.fails(BadName, {"name": name}, Relation, ["a", name], ["a"], [])
            self.fails(BadName, {"name": name}, Relation, ["a"], ["b", name], [])

    def test_first_bad_name(self):
        self.fails(BadName, {"name": "A"}, Relation, ["a", "A", "B"], ["C"], [])
        self.fails(BadName, {"name": "C"}, Relation, ["a", "a"], ["C"], [("x", "x")])

    def test_twice_told(self):
        self.fails(TwiceTold, {"name": "b"}, Relation, ["a", "b", "b"], ["c", "c"], [("x", "x")])
        self.fails(TwiceTold, {"name": "c"}, Relation, ["a", "b"], ["c", "d", "c"], [("x", "x")])
        self.fails(TwiceTold, {"name": "b"}, Relation, ["a", "b", "b", "a"], [], [])

    def test_unknown_names(self):
        self.fails(UnknownName, {"name": "y"}, Relation, ["x"], ["y"], [("x", "y"), ("y", "x")])
        self.fails(UnknownName, {"name": "x"}, Relation, ["x"], ["y"], [("x", "x"), ("q", "y")])
        self.fails(UnknownName, {"name": "q"}, Relation, ["x"], ["y"], [("q", "r")])
        for name in NOT_WORDS:
            self.fails(UnknownName, {"name": name}, Relation, ["x"], ["y"], [("x", "y"), (name, "y")])
            self.fails(UnknownName, {"name": name}, Relation, ["x"], ["y"], [("x", name)])

    def test_nothing_is_kept_or_shared(self):
        sources, targets, pairs = ["a"], ["b"], [("a", "b")]
        r = Relation(sources, targets, pairs)
        for mine in (sources, targets, pairs, r.sources(), r.targets(), r.pairs(), r.row("a"), r.column("b")):
            mine.clear()
        self.assertEqual(told(r), (["a"], ["b"], [("a", "b")]))
        self.assertEqual((r.row("a"), r.column("b")), (["b"], ["a"]))


class Asking(Case):
    def test_contains_and_length(self):
        for r in small_relations():
            found = [(x, y) for x in r.sources() for y in r.targets() if (x, y) in r]
            self.assertEqual(found, r.pairs())
            self.assertEqual(len(r), len(found))

    def test_contains_any_value(self):
        r = every_pair(["a", "b"], ["a", "b"])
        for value in ODD_VALUES:
            self.assertIs(value in r, value == ("a", "b") and isinstance(value, tuple), value)
            self.assertNotIn((value, "a"), r)
            self.assertNotIn(("a", value), r)
        self.assertNotIn(("a", "b", "a"), r)
        self.assertNotIn(["a", "b"], r)
        self.assertNotIn(("a", "b"), ~r)

    def test_rows_and_columns(self):
        for r in small_relations():
            for x in r.sources():
                self.assertEqual(r.row(x), [y for y in r.targets() if (x, y) in r])
            for y in r.targets():
                self.assertEqual(r.column(y), [x for x in r.sources() if (x, y) in r])

    def test_rows_of_no_names(self):
        r = Relation(["a"], ["b"], [("a", "b")])
        for value in NOT_WORDS + ["b", "c"]:
            self.fails(UnknownName, {"name": value}, r.row, value)
        for value in NOT_WORDS + ["a", "c"]:
            self.fails(UnknownName, {"name": value}, r.column, value)

    def test_equal(self):
        r = Relation(["a", "b"], ["c", "d"], [("a", "c"), ("b", "d")])
        self.assertTrue(r == Relation(["a", "b"], ["c", "d"], [("b", "d"), ("a", "c"), ("a", "c")]))
        self.assertFalse(r != Relation(("a", "b"), ("c", "d"), (("b", "d"), ("a", "c"))))
        for other in (Relation(["b", "a"], ["c", "d"], r.pairs()), Relation(["a", "b"], ["d", "c"], r.pairs()),
                      Relation(["a", "b"], ["c", "d"], [("a", "c")]), Relation(["a", "b"], ["c", "d", "e"], r.pairs())):
            self.assertFalse(r == other)
            self.assertTrue(r != other)
        self.assertFalse(Relation([], ["a"], []) == Relation(["a"], [], []))
        for sources, targets in ((["b", "a"], ["c"]), (["a", "d"], ["c"]), (["a", "b"], ["d"]), (["a", "b"], [])):
            self.assertFalse(Relation(["a", "b"], ["c"], []) == Relation(sources, targets, []))
        for value in ODD_VALUES + [r.pairs(), told(r)]:
            self.assertFalse(r == value)
            self.assertFalse(value == r)


class Operators(Case):
    def check_made(self, made, sources, targets, pairs):
        self.assertEqual(told(made), (sources, targets, pairs))
        self.assertEqual(made, Relation(sources, targets, pairs))

    def check_two(self, r, s):
        spots = [(x, y) for x in r.sources() for y in r.targets()]
        for made, pairs in ((r | s, [p for p in spots if p in r or p in s]),
                            (r & s, [p for p in spots if p in r and p in s]),
                            (r - s, [p for p in spots if p in r and p not in s])):
            self.check_made(made, r.sources(), r.targets(), pairs)
        within = all([p in s for p in r.pairs()])
        more = any([p not in r for p in s.pairs()])
        self.assertEqual([r <= s, r < s], [within, within and more])
        self.assertEqual([s >= r, s > r], [r <= s, r < s])
        for answer in (r <= s, r < s, r >= s, r > s):
            self.assertIsInstance(answer, bool)

    def test_two_operands(self):
        for sources, targets in ((["b", "a"], ["a", "c"]), (["a"], ["a", "b"]), ([], ["a"]), ([], [])):
            for r in relations_between(sources, targets):
                for s in relations_between(sources, targets):
                    self.check_two(r, s)

    def test_operands_stay(self):
        r, s = Relation(["a"], ["b"], [("a", "b")]), Relation(["a"], ["b"], [])
        for made in (r | s, r & s, r - s, ~r, r.turned(), r >> s.turned()):
            self.assertIsNot(made, r)
        self.assertEqual((told(r), told(s)), ((["a"], ["b"], [("a", "b")]), (["a"], ["b"], [])))

    def test_complement_and_converse(self):
        for r in small_relations():
            spots = [(x, y) for x in r.sources() for y in r.targets()]
            self.check_made(~r, r.sources(), r.targets(), [p for p in spots if p not in r])
            turned = [(y, x) for y in r.targets() for x in r.sources() if (x, y) in r]
            self.check_made(r.turned(), r.targets(), r.sources(), turned)

    def test_composition(self):
        for middle in ([], ["m"], ["n", "m"]):
            for r in relations_between(["b", "a"], middle):
                for s in relations_between(middle, ["z", "a"]):
                    pairs = [(x, z) for x in r.sources() for z in s.targets()
                             if any([(x, y) in r and (y, z) in s for y in middle])]
                    self.check_made(r >> s, ["b", "a"], ["z", "a"], pairs)

    def test_mixed_names(self):
        r = Relation(["a", "b"], ["c", "d"], [])
        others = [Relation(["b", "a"], ["c", "d"], []), Relation(["a", "b"], ["d", "c"], []),
                  Relation(["a"], ["c", "d"], []), Relation(["a", "b"], ["c"], [])]
        for s in others:
            for call in (lambda one, two: one | two, lambda one, two: one & two, lambda one, two: one - two,
                         lambda one, two: one <= two, lambda one, two: one < two, lambda one, two: one >= two,
                         lambda one, two: one > two):
                self.fails(MixedNames, {}, call, r, s)
                self.fails(MixedNames, {}, call, s, r)
        for s in (Relation(["d", "c"], ["a"], []), Relation(["c"], ["a"], []), Relation([], ["a"], []), r):
            self.fails(MixedNames, {}, lambda one, two: one >> two, r, s)

    def test_other_operands(self):
        r = Relation(["a"], ["a"], [("a", "a")])
        for name in ("or", "and", "sub", "rshift", "le", "lt", "ge", "gt"):
            for value in (None, 1, "a", [], (), {}, [("a", "a")], {("a", "a")}):
                self.assertIs(getattr(r, f"__{name}__")(value), NotImplemented)
        with self.assertRaises(TypeError):
            r | 1
        with self.assertRaises(TypeError):
            r <= [("a", "a")]

    def test_large_ones(self):
        for r in chance_relations(names_of(8), names_of(8), 20, 1):
            for s in chance_relations(names_of(8), names_of(8), 5, 2):
                self.check_two(r, s)


class OfNames(Case):
    def test_they_hold_what_they_say(self):
        for names in ([], ["a"], ["c", "a", "b"]):
            self.assertEqual(told(self.unchanged(same_pairs, names)), (names, names, [(x, x) for x in names]))
            unlike = [(x, y) for x in names for y in names if x != y]
            self.assertEqual(told(self.unchanged(other_pairs, names)), (names, names, unlike))
            for more in ([], ["a"], ["b", "a"]):
                spots = [(x, y) for x in names for y in more]
                self.assertEqual(told(self.unchanged(every_pair, names, more)), (names, more, spots))
                self.assertEqual(told(self.unchanged(no_pair, names, more)), (names, more, []))
        self.assertEqual(told(other_pairs(("a", "b"))), (["a", "b"], ["a", "b"], [("a", "b"), ("b", "a")]))

    def test_errors(self):
        for call in (every_pair, no_pair):
            for name in NOT_WORDS:
                self.fails(BadName, {"name": name}, call, ["a", "a", name], ["b"])
                self.fails(BadName, {"name": name}, call, ["a", "a"], [name])
            self.fails(TwiceTold, {"name": "a"}, call, ["a", "a"], ["b", "b"])
            self.fails(TwiceTold, {"name": "b"}, call, ["a"], ["b", "b"])
        for call in (same_pairs, other_pairs):
            for name in NOT_WORDS:
                self.fails(BadName, {"name": name}, call, ["a", "a", name])
            self.fails(TwiceTold, {"name": "a"}, call, ["a", "b", "a"])


if __name__ == "__main__":
    unittest.main()
