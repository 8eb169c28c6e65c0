"""under, over, likeness, between, first_gap (S1.4)."""

import unittest

from pairlaws.errors import MixedNames, UnknownName
from pairlaws.relations import Relation
from pairlaws.residuals import between, first_gap, likeness, over, under
from tests.support import NOT_WORDS, Case, chance_relations, names_of, relations_between


def told(r):
    return (r.sources(), r.targets(), r.pairs())


def pairs_where(sources, targets, holds):
    return (sources, targets, [(x, y) for x in sources for y in targets if holds(x, y)])


def two_of(shared, more, others):
    """Two relations for each choice: from the shared names to more, and from them to others."""
    for r in relations_between(shared, more):
        for s in relations_between(shared, others):
            yield r, s


SHAPES = [([], ["a"], ["b"]), (["b", "a"], ["a"], ["c", "b"]), (["a", "b"], [], ["c"]), (["c"], ["b", "a"], ["a"])]


class Residuals(Case):
    def check_under(self, r, t):
        def holds(y, z):
            return all([(x, z) in t for x in r.sources() if (x, y) in r])
        self.assertEqual(told(self.unchanged(under, r, t)), pairs_where(r.targets(), t.targets(), holds))

    def check_over(self, t, s):
        def holds(x, y):
            return all([(x, z) in t for z in s.targets() if (y, z) in s])
        self.assertEqual(told(self.unchanged(over, t, s)), pairs_where(t.sources(), s.sources(), holds))

    def check_likeness(self, r, s):
        found = pairs_where(r.sources(), s.sources(), lambda x, u: r.row(x) == s.row(u))
        self.assertEqual(told(self.unchanged(likeness, r, s)), found)

    def test_small_ones(self):
        for shared, more, others in SHAPES:
            for r, t in two_of(shared, more, others):
                self.check_under(r, t)
                self.check_over(r.turned(), t.turned())
                self.check_likeness(r.turned(), t.turned())

    def test_large_ones(self):
        for r in chance_relations(names_of(8), names_of(6), 10, 3):
            for t in chance_relations(names_of(8), names_of(6), 10, 4):
                self.check_under(r, t)
                self.check_over(r, t)
                self.check_likeness(r, t)

    def test_greatest(self):
        for r, t in two_of(["b", "a"], ["a", "c"], ["c"]):
            for s in relations_between(["a", "c"], ["c"]):
                self.assertEqual(r >> s <= t, s <= under(r, t))
        for t, s in two_of(["b", "a"], ["a"], ["c", "a"]):
            for r in relations_between(["a"], ["c", "a"]):
                self.assertEqual(r >> s.turned() <= t.turned(), r <= over(t.turned(), s.turned()))

    def test_mixed_names(self):
        r = Relation(["a", "b"], ["c", "d"], [])
        for names in (["b", "a"], ["a"], []):
            self.fails(MixedNames, {}, under, r, Relation(names, ["c", "d"], []))
        for names in (["d", "c"], ["c"], []):
            self.fails(MixedNames, {}, over, r, Relation(["a", "b"], names, []))
            self.fails(MixedNames, {}, likeness, r, Relation(["a", "b"], names, []))


class Between(Case):
    def test_names_between(self):
        for middle in ([], ["n", "m"]):
            for r in relations_between(["b", "a"], middle):
                for s in relations_between(middle, ["a", "z"]):
                    for x in r.sources():
                        for z in s.targets():
                            found = [y for y in middle if (x, y) in r and (y, z) in s]
                            self.assertEqual(self.unchanged(between, r, s, x, z), found)

    def test_new_list(self):
        r = Relation(["a"], ["a"], [("a", "a")])
        between(r, r, "a", "a").clear()
        self.assertEqual(between(r, r, "a", "a"), ["a"])

    def test_errors(self):
        r, s = Relation(["a"], ["b", "c"], []), Relation(["b", "c"], ["d"], [])
        for value in NOT_WORDS + ["b", "d"]:
            self.fails(UnknownName, {"name": value}, between, r, s, value, "x")
            self.fails(MixedNames, {}, between, s, r, value, value)
        for value in NOT_WORDS + ["a", "b"]:
            self.fails(UnknownName, {"name": value}, between, r, s, "a", value)
        self.fails(MixedNames, {}, between, r, Relation(["c", "b"], ["d"], []), "a", "d")


class FirstGap(Case):
    def check(self, r, s, t):
        gaps = [(x, y, z) for x in r.sources() for z in s.targets() for y in r.targets()
                if (x, y) in r and (y, z) in s and (x, z) not in t]
        self.assertEqual(self.unchanged(first_gap, r, s, t), gaps[0] if gaps else None)
        self.assertEqual(first_gap(r, s, t) is None, r >> s <= t)

    def test_small_ones(self):
        for middle in ([], ["n", "m"]):
            for r in relations_between(["b", "a"], middle):
                for s in relations_between(middle, ["a", "z"]):
                    for t in relations_between(["b", "a"], ["a", "z"]):
                        self.check(r, s, t)

    def test_large_ones(self):
        for r in chance_relations(names_of(8), names_of(7), 8, 5):
            for s in chance_relations(names_of(7), names_of(6), 8, 6):
                for t in chance_relations(names_of(8), names_of(6), 8, 7):
                    self.check(r, s, t)

    def test_errors(self):
        r, s, t = Relation(["a"], ["b", "c"], []), Relation(["b", "c"], ["d", "e"], []), Relation(["a"], ["d", "e"], [])
        self.assertIsNone(first_gap(r, s, t))
        for one, two, three in ((r, t, t), (s, r, t), (r, Relation(["c", "b"], ["d", "e"], []), t), (r, s, s),
                                (r, s, Relation(["a"], ["e", "d"], [])), (r, s, Relation([], ["d", "e"], []))):
            self.fails(MixedNames, {}, first_gap, one, two, three)


if __name__ == "__main__":
    unittest.main()
