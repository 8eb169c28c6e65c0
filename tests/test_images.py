"""Relations and worths led by maps, kinds of maps, three steps (S10.2, S10.3)."""

import unittest

from pairlaws.errors import BadSteps, BadTerm, MixedNames, UnknownName
from pairlaws.images import (back_of_map, fetched_relation, first_gained, first_unkept, is_apart_map, is_embedding, is_fold, is_onto_map,
                             is_three_steps, kernel_of_map, led_relation, steps_between, three_steps)
from pairlaws.maps import WorldMap, all_maps, same_map
from pairlaws.partings import classes
from pairlaws.relations import Relation, every_pair, no_pair
from pairlaws.terms import ends_of
from pairlaws.worlds import World
from pairlaws.worths import worth
from tests.casesupport import seeded
from tests.mapsupport import BARE, SQUARE, chance_maps, empty, pairs_of_images, renamed_map, square
from tests.support import ODD_VALUES, Case, chance_relations, written
from tests.termsupport import FLAT, FRAME, R, S, T, chance_term
from tests.test_maps import IMAGES, SOURCE, TARGET

M = WorldMap(SOURCE, TARGET, IMAGES)
RS = ("then", R, S)
# An injective and surjective map that is neither a fold nor an embedding.
TURN = WorldMap(square("ab"), square("qp", "pq"), {"a": ["p", "q"]})


class Relations(Case):
    def test_examples(self):
        r = Relation(["x", "y", "z"], ["w", "x"], [("z", "x"), ("y", "x"), ("x", "x")])
        led = self.unchanged(led_relation, M, "a", "b", r)
        self.assertEqual(led, Relation(["p", "q"], ["x", "k"], [("q", "x"), ("p", "x")]))
        s = Relation(["x", "k"], ["p", "q"], [("k", "q")])
        fetched = self.unchanged(fetched_relation, M, "b", "a", s)
        self.assertEqual(fetched, Relation(["w", "x"], ["x", "y", "z"], [("w", "y"), ("w", "z")]))
        self.assertEqual(led_relation(M, "a", "a", no_pair(["x", "y", "z"], ["x", "y", "z"])), no_pair(["p", "q"], ["p", "q"]))
        self.assertEqual(fetched_relation(M, "b", "b", every_pair(["x", "k"], ["x", "k"])), every_pair(["w", "x"], ["w", "x"]))

    def test_as_it_is_meant(self):
        chance = seeded(321)
        for m in chance_maps(chance, 40):
            a, b = chance.choice("ab"), chance.choice("ab")
            source, target = m.source(), m.target()
            for r, s in zip(chance_relations(source.things(a), source.things(b), 5, 1), chance_relations(target.things(a), target.things(b), 5, 2)):
                led, fetched = led_relation(m, a, b, r), fetched_relation(m, a, b, s)
                self.assertEqual(led, Relation(target.things(a), target.things(b), pairs_of_images(m, a, b, r.pairs())))
                right = [(x, y) for x in source.things(a) for y in source.things(b) if (m.image(a, x), m.image(b, y)) in s]
                self.assertEqual(fetched, Relation(source.things(a), source.things(b), right))
                self.assertIs(led <= s, r <= fetched)
                self.assertTrue(r <= fetched_relation(m, a, b, led))
                self.assertTrue(led_relation(m, a, b, fetched) <= s)

    def test_errors(self):
        right = every_pair(["x", "y", "z"], ["w", "x"])
        for value in ODD_VALUES + ["r", "c"]:
            for call in (led_relation, fetched_relation):
                if value not in ("a", "b"):
                    self.fails(UnknownName, {"name": value}, call, M, value, None, right)
                    self.fails(UnknownName, {"name": value}, call, M, "a", value, right)
        for r in (every_pair(["p", "q"], ["x", "k"]), every_pair(["x", "z", "y"], ["w", "x"]), every_pair(["x", "y", "z"], ["x", "w"]),
                  every_pair(["x", "y"], ["w", "x"]), every_pair(["w", "x"], ["x", "y", "z"]), every_pair(["x", "y", "z"], ["w"])):
            self.fails(MixedNames, {}, led_relation, M, "a", "b", r)
        for s in (right, every_pair(["q", "p"], ["x", "k"]), every_pair(["p", "q"], ["k", "x"]), every_pair(["x", "k"], ["p", "q"])):
            self.fails(MixedNames, {}, fetched_relation, M, "a", "b", s)
        self.fails(MixedNames, {}, led_relation, M, "b", "a", right)


class Worths(Case):
    def test_examples(self):
        for term, right in [(R, None), (RS, None), (("closed", T), None), (("other", "a"), ("y", "z")), (("rest", T), ("x", "z")),
                            (("rest", ("rest", T)), None), (("all", "a", "b"), None), (("none", "a", "b"), None)]:
            self.assertEqual(self.unchanged(first_unkept, M, term), right)
        for term, right in [(("same", "a"), ("y", "z")), (("other", "a"), None), (("all", "a", "a"), None)]:
            self.assertEqual(self.unchanged(first_gained, M, term), right)

    def test_order_of_pairs(self):
        m = WorldMap(square("cab"), square("z", "zz"), {"a": ["z", "z", "z"]})
        self.assertEqual(first_gained(m, ("letter", "r")), ("c", "c"))
        self.assertEqual(first_unkept(m, ("rest", ("letter", "r"))), ("c", "c"))
        self.assertEqual(first_unkept(m, ("other", "a")), ("c", "a"))
        self.assertEqual(first_gained(m, ("same", "a")), ("c", "a"))
        m = WorldMap(square("cab", "cb", "ca"), square("yz", "yz"), {"a": ["y", "z", "z"]})
        self.assertIs(first_gained(m, ("letter", "r")), None)
        self.assertEqual(first_gained(m, ("same", "a")), ("a", "b"))
        self.assertEqual(first_gained(m, ("turned", ("rest", ("letter", "r")))), None)

    def test_as_it_is_meant(self):
        chance = seeded(322)
        seen = set()
        for m in chance_maps(chance, 80):
            for _ in range(4):
                ends = (chance.choice("ab"), chance.choice("ab"))
                term = chance_term(chance, ends, 4, chance.choice([(), ("rest", "other")]))
                self.assertEqual(first_unkept(m, term), first_by_trial(m, term, True))
                self.assertEqual(first_gained(m, term), first_by_trial(m, term, False))
                seen.add((first_unkept(m, term) is None, first_gained(m, term) is None))
                if "rest" not in written(term) and "other" not in written(term):
                    self.assertIs(first_unkept(m, term), None)
                flat = chance_term(chance, ends, 3, FLAT)
                if is_embedding(m):
                    self.assertEqual((first_unkept(m, flat), first_gained(m, flat)), (None, None))
        self.assertGreater(len(seen), 2)

    def test_errors(self):
        for call in (first_unkept, first_gained):
            for value in ODD_VALUES + [["letter", "r"]]:
                self.fails(BadTerm, {"path": ()}, call, M, value)
            self.fails(BadTerm, {"path": (1,)}, call, M, ("then", R, ("closed", R)))
            self.fails(BadTerm, {"path": (0, 0)}, call, M, ("rest", ("rest", None)))


def first_by_trial(m, term, kept):
    """The first pair whose images are not kept, or that is gained, read from the document."""
    first, second = ends_of(m.source().frame(), term)
    source, target = worth(m.source(), term), worth(m.target(), term)
    for x in source.sources():
        for y in source.targets():
            images = (m.image(first, x), m.image(second, y))
            if ((x, y) in source) == kept and ((images in target) != kept):
                return (x, y)
    return None


class Kinds(Case):
    def judge(self, m, apart, onto, fold, embedding):
        self.assertEqual((self.unchanged(is_apart_map, m), self.unchanged(is_onto_map, m)), (apart, onto))
        self.assertEqual((self.unchanged(is_fold, m), self.unchanged(is_embedding, m)), (fold, embedding))

    def test_examples(self):
        self.judge(M, False, True, False, False)
        self.judge(same_map(SOURCE), True, True, True, True)
        self.judge(TURN, True, True, False, False)
        self.judge(WorldMap(square("ab"), square("q"), {"a": ["q", "q"]}), False, True, True, False)
        self.judge(WorldMap(square("ab", "ab"), square("q", "qq"), {"a": ["q", "q"]}), False, True, True, False)
        self.judge(WorldMap(square("a"), square("qp", "pq"), {"a": ["q"]}), True, False, False, True)
        self.judge(WorldMap(square("a"), square("qp", "qq"), {"a": ["q"]}), True, False, False, False)
        self.judge(WorldMap(square("ab"), square("qp", "pp"), {"a": ["q", "q"]}), False, False, False, False)
        for frame in (BARE, FRAME):
            self.judge(same_map(empty(frame)), True, True, True, True)
        self.judge(WorldMap(empty(SQUARE), square("a", "aa"), {"a": []}), True, False, False, True)
        # One sort alone is not onto, one sort alone is not apart.
        some = World(BARE, {"b": ["x"], "a": ["x", "y"]}, {})
        self.judge(WorldMap(some, World(BARE, {"b": ["x"], "a": ["x"]}, {}), {"b": ["x"], "a": ["x", "x"]}), False, True, True, False)
        self.judge(WorldMap(some, World(BARE, {"b": ["x", "y"], "a": ["x", "y"]}, {}), {"b": ["x"], "a": ["x", "y"]}), True, False, False, True)

    def test_as_it_is_meant(self):
        chance = seeded(323)
        seen = set()
        for m in chance_maps(chance, 150):
            source, target, images = m.source(), m.target(), m.images()
            apart = all([len(set(images[sort])) == len(images[sort]) for sort in "ab"])
            onto = all([set(images[sort]) == set(target.things(sort)) for sort in "ab"])
            fold, embedding = onto, apart
            for name, a, b in FRAME.letters():
                pairs = source.relation(name).pairs()
                fold = fold and set(pairs_of_images(m, a, b, pairs)) == set(target.relation(name).pairs())
                for x in source.things(a):
                    for y in source.things(b):
                        if target.has(name, m.image(a, x), m.image(b, y)) and (x, y) not in pairs:
                            embedding = False
            self.judge(m, apart, onto, fold, embedding)
            seen.add((apart, onto, fold, embedding))
            back = back_of_map(m)
            self.assertIs(back is not None, fold and embedding)
            self.assertEqual(back, inverse_by_trial(m))
        self.assertGreater(len(seen), 5)

    def test_back(self):
        m = renamed_map(SOURCE, {"a": ["z", "x", "q"], "b": ["v", "w"]})
        back = self.unchanged(back_of_map, m)
        self.assertEqual(back, WorldMap(m.target(), SOURCE, {"a": ["z", "y", "x"], "b": ["x", "w"]}))
        self.assertEqual((m >> back, back >> m), (same_map(SOURCE), same_map(m.target())))
        self.assertEqual(back_of_map(back), m)
        for other in (M, TURN, WorldMap(square("ab"), square("q"), {"a": ["q", "q"]}), WorldMap(square("a"), square("qp"), {"a": ["q"]})):
            self.assertIs(self.unchanged(back_of_map, other), None)
        self.assertEqual(back_of_map(same_map(empty(FRAME))), same_map(empty(FRAME)))

    def test_kernel(self):
        kernel = self.unchanged(kernel_of_map, M, "a")
        self.assertEqual((kernel.sources(), classes(kernel)), (["x", "y", "z"], [["x"], ["y", "z"]]))
        self.assertEqual(classes(kernel_of_map(M, "b")), [["w"], ["x"]])
        self.assertEqual(classes(kernel_of_map(same_map(empty(FRAME)), "a")), [])
        for value in ODD_VALUES + ["r", "c", "x"]:
            if value not in ("a", "b"):
                self.fails(UnknownName, {"name": value}, kernel_of_map, M, value)
        for m in chance_maps(seeded(324), 30):
            for sort in "ab":
                names = m.source().things(sort)
                right = [(x, y) for x in names for y in names if m.image(sort, x) == m.image(sort, y)]
                self.assertEqual(kernel_of_map(m, sort), Relation(names, names, right))


def inverse_by_trial(m):
    for n in all_maps(m.target(), m.source()):
        if m >> n == same_map(m.source()) and n >> m == same_map(m.target()):
            return n
    return None


def told(m):
    return (m.source(), m.target(), m.images())


class Steps(Case):
    def test_example(self):
        source, target = square("abcd", "ab", "cb"), square("zyxw", "xy", "zz", "xz", "wx")
        m = WorldMap(source, target, {"a": ["x", "y", "x", "z"]})
        fold, turn, embedding = self.unchanged(three_steps, m)
        first, second = square("zyx", "xy"), square("zyx", "xy", "zz", "xz")
        self.assertEqual(told(fold), (source, first, {"a": ["x", "y", "x", "z"]}))
        self.assertEqual(told(turn), (first, second, {"a": ["z", "y", "x"]}))
        self.assertEqual(told(embedding), (second, target, {"a": ["z", "y", "x"]}))
        self.assertIs(is_three_steps(m, (fold, turn, embedding)), True)
        self.assertIsInstance(three_steps(m), tuple)

    def test_empty(self):
        m = WorldMap(empty(FRAME), TARGET, {"a": [], "b": []})
        fold, turn, embedding = three_steps(m)
        self.assertEqual((fold, turn, embedding), (same_map(empty(FRAME)), same_map(empty(FRAME)), m))

    def other_steps(self, chance, steps):
        """Three steps of the same map whose worlds between have other names and another order."""
        fold, turn, embedding = steps

        def renaming(world):
            return renamed_map(world, {sort: chance.sample(["k1", "k2", "k3", "k4"], len(world.things(sort))) for sort in "ab"})
        p, q = renaming(fold.target()), renaming(embedding.source())
        return (fold >> p, back_of_map(p) >> turn >> q, back_of_map(q) >> embedding)

    def test_as_it_is_meant(self):
        chance = seeded(325)
        for m in chance_maps(chance, 60):
            steps = three_steps(m)
            fold, turn, embedding = steps
            self.assertTrue(is_fold(fold) and is_apart_map(turn) and is_onto_map(turn) and is_embedding(embedding))
            self.assertEqual(fold >> turn >> embedding, m)
            self.assertEqual((fold.images(), fold.source(), embedding.target()), (m.images(), m.source(), m.target()))
            things = {sort: [x for x in m.target().things(sort) if x in m.images()[sort]] for sort in "ab"}
            self.assertEqual((turn.images(), embedding.images(), fold.target().told()[0], turn.target().told()[0]), (things,) * 4)
            self.assertIs(is_three_steps(m, steps), True)
            other = self.other_steps(chance, steps)
            self.assertIs(self.unchanged(is_three_steps, m, other), True)
            for one, two in ((steps, other), (other, steps), (steps, steps), (other, self.other_steps(chance, other))):
                p, q = self.unchanged(steps_between, m, one, two)
                self.assertTrue(back_of_map(p) is not None and back_of_map(q) is not None)
                self.assertEqual((one[0] >> p, one[1] >> q, one[2]), (two[0], p >> two[1], q >> two[2]))

    def test_one_answer(self):
        source, target = square("abc", "ab"), square("xy", "xy", "xx")
        m = WorldMap(source, target, {"a": ["x", "y", "y"]})
        one = three_steps(m)
        renaming = WorldMap(square("xy", "xy"), square("ts", "st"), {"a": ["s", "t"]})
        other = (one[0] >> renaming, back_of_map(renaming) >> one[1], one[2])
        self.assertEqual(steps_between(m, one, other), (renaming, same_map(square("xy", "xy", "xx"))))
        p, q = steps_between(m, other, one)
        self.assertEqual((p, q), (back_of_map(renaming), same_map(square("xy", "xy", "xx"))))

    def bad_steps(self, m):
        fold, turn, embedding = three_steps(m)
        same = same_map(m.source())
        return ODD_VALUES + [
            [fold, turn, embedding], (fold, turn), (fold, turn, embedding, embedding), (fold, embedding, turn), (turn, fold, embedding), (m, m, m), (m,), m,
            (fold, turn, None), (None, turn, embedding), (fold, 0, embedding), (same, same, m), (same, m, same_map(m.target())), (m, same_map(m.target()), same_map(m.target())),
            (fold >> turn, same_map(turn.target()), embedding), (fold, same_map(fold.target()), turn >> embedding), (same, fold >> turn, embedding),
            (fold, turn >> embedding, same_map(m.target())), (same, same, same)]

    def test_no_steps(self):
        m = WorldMap(square("abc", "ab"), square("xyz", "xy", "xx", "zx"), {"a": ["x", "y", "y"]})
        for value in self.bad_steps(m):
            self.assertIs(self.unchanged(is_three_steps, m, value), False)
            self.fails(BadSteps, {}, steps_between, m, value, three_steps(m))
            self.fails(BadSteps, {}, steps_between, m, three_steps(m), value)
            self.fails(BadSteps, {}, steps_between, m, value, value)
        # Steps of another map, with the same worlds.
        n = WorldMap(m.source(), m.target(), {"a": ["x", "x", "y"]})
        self.assertIs(is_three_steps(m, three_steps(n)), False)
        self.assertIs(is_three_steps(n, three_steps(n)), True)

    def test_worlds_that_are_not_equal(self):
        m = same_map(square("ab"))
        other = renamed_map(square("ab"), {"a": ["x", "y"]})
        self.assertIs(is_three_steps(m, (m, m, m)), True)
        for value in ((other, m, m), (m, other, m), (m, m, other), (m, other, back_of_map(other) >> other)):
            self.assertIs(is_three_steps(m, value), False)
        self.assertIs(is_three_steps(m, (other, back_of_map(other), m)), True)
        shuffled = same_map(square("ba"))
        self.assertIs(is_three_steps(m, (m, shuffled, m)), False)


if __name__ == "__main__":
    unittest.main()
