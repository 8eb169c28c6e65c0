"""Parts, products, sums and foldings of worlds (S4.7 to S4.10)."""

import random
import unittest

from pairlaws.books import Book, obeys
from pairlaws.errors import BadWorld, MixedFrames, NotTold, NotTotal, TwiceTold, UnknownName
from pairlaws.frames import Frame
from pairlaws.worlds import World
from pairlaws.worldworks import folded, is_whole, part_of, product, summed, whole_part
from pairlaws.worths import worth
from tests.support import ODD_VALUES, Case, written
from tests.termsupport import FLAT, FRAME, KEPT, PLAIN, T, chance_term, chance_terms, chance_world, chance_worlds

WORLD = World(FRAME, {"a": ["x", "y", "z"], "b": ["w", "x"]}, {
    "r": [("x", "w"), ("y", "x"), ("x", "x")], "s": [("w", "z")], "t": [("x", "y"), ("y", "z"), ("z", "z")], "u": []})
EMPTY = World(FRAME, {"a": [], "b": []}, {"r": [], "s": [], "t": [], "u": []})
CHAIN = Frame(["c", "a", "b"], [("r", "a", "b"), ("s", "b", "c"), ("q", "c", "a"), ("e", "a", "b")],
              [("s", "on"), ("r", "on"), ("q", "back"), ("e", "on")])


def chain_world(**pairs):
    things = {"c": ["x", "k"], "a": ["x", "y"], "b": ["v", "w", "x"]}
    told = {"r": [("x", "w"), ("x", "v"), ("y", "x")], "s": [("v", "k"), ("w", "x"), ("x", "k"), ("x", "x")],
            "q": [("k", "x"), ("x", "x"), ("k", "y")], "e": [("x", "x"), ("y", "x")]}
    return World(CHAIN, things, {**told, **pairs})


class Parts(Case):
    def test_part(self):
        made = self.unchanged(part_of, WORLD, {"a": ["z", "x"], "b": ["x"]})
        self.assertEqual(made.told(), ({"a": ["x", "z"], "b": ["x"]},
                                       {"r": [("x", "x")], "s": [], "t": [("z", "z")], "u": []}))
        self.assertEqual(part_of(WORLD, {}), EMPTY)
        self.assertEqual(part_of(WORLD, {"b": []}), EMPTY)
        self.assertEqual(part_of(WORLD, {"b": ("x", "w"), "a": ("z", "y", "x")}), WORLD)
        self.assertEqual(part_of(WORLD, {"b": ["w"]}).things("b"), ["w"])

    def test_whole(self):
        world = chain_world()
        for things, whole in (({}, True), ({"c": ["k"]}, True), ({"a": ["x"], "b": ["v", "x"]}, False), ({"c": ["k"], "a": ["y"]}, False), ({"b": ["x"]}, False),
                              ({"b": ["w"], "c": ["x"], "a": ["x"]}, False),
                              ({"b": ["x"], "c": ["k"], "a": ["y"]}, True), ({"b": ["w"], "c": ["x"]}, True),
                              ({"b": ["w"], "c": ["k"]}, False),
                              ({"b": ["w", "v", "x"], "c": ["x", "k"], "a": ["x", "y"]}, True)):
            self.assertIs(self.unchanged(is_whole, world, things), whole, things)
        self.assertIs(is_whole(WORLD, {"a": ["x"]}), True)

    def test_whole_part(self):
        world = chain_world()
        # x of a needs v by r, and x of b by e; these need k by s; k needs nothing. x of a needs k by q, too.
        made = self.unchanged(whole_part, world, {"a": ["x"]})
        self.assertEqual(made.told()[0], {"c": ["x", "k"], "a": ["x"], "b": ["v", "x"]})
        self.assertEqual(whole_part(world, {"b": ["w"]}).told()[0], {"c": ["x"], "a": [], "b": ["w"]})
        # The first partner is added even if another partner is there.
        self.assertEqual(whole_part(world, {"b": ["x", "w"], "c": ["k"]}).told()[0], {"c": ["x", "k"], "a": [], "b": ["w", "x"]})
        self.assertEqual(whole_part(world, {"a": ["x"], "b": ["w"]}).told()[0], {"c": ["x", "k"], "a": ["x"], "b": ["v", "w", "x"]})
        self.assertEqual(whole_part(world, {}).total(), 0)
        self.assertEqual(whole_part(WORLD, {"a": ["y", "x"]}), part_of(WORLD, {"a": ["x", "y"]}))

    def test_no_partner(self):
        def bad(told, world, things):
            self.fails(NotTotal, dict(zip(("name", "word", "member"), told)), whole_part, world, things)
        bare = chain_world(r=[("y", "w")], s=[("w", "k")], q=[("k", "y")], e=[])
        bad(("r", "on", "x"), bare, {"a": ["x"]})
        bad(("e", "on", "y"), bare, {"a": ["y", "x"]})
        bad(("r", "on", "x"), bare, {"a": ["x", "y"]})
        bad(("s", "on", "v"), bare, {"b": ["v", "x"]})
        bad(("s", "on", "x"), bare, {"b": ["x", "v"]})
        # Things of a come before things of b, and both before partners.
        bad(("r", "on", "x"), bare, {"b": ["v"], "a": ["x"]})
        bad(("s", "on", "v"), chain_world(s=[("x", "k")]), {"a": ["x"]})
        bad(("s", "on", "w"), chain_world(s=[("x", "k")]), {"a": ["x"], "b": ["w"]})
        # The partners of one thing come in the order of the totals: by r, by q, by e.
        bad(("s", "on", "v"), chain_world(s=[]), {"a": ["x"]})
        bad(("s", "on", "x"), chain_world(s=[]), {"a": ["y", "x"]})
        bad(("q", "back", "y"), chain_world(q=[("k", "x")], s=[]), {"a": ["x", "y"]})

    def test_wrong_things(self):
        for call in (part_of, is_whole, whole_part):
            self.fails(BadWorld, {"name": "A"}, call, WORLD, {"z": [], "a": [None], "A": []})
            self.fails(BadWorld, {"name": "r"}, call, WORLD, {"r": [], "a": [None]})
            for value in ODD_VALUES + ["w"]:
                self.fails(UnknownName, {"name": value}, call, WORLD, {"b": ["q"], "a": ["x", value, "x"]})
            self.fails(UnknownName, {"name": "q"}, call, WORLD, {"b": ["q", "w"], "a": ["x", "y"]})
            self.fails(TwiceTold, {"name": "y"}, call, WORLD, {"b": ["q"], "a": ["x", "y", "y", "q"]})
            self.fails(TwiceTold, {"name": "x"}, call, WORLD, {"b": ["w", "x", "x"]})
        # What is told wrong comes before what is missing.
        self.fails(TwiceTold, {"name": "v"}, whole_part, chain_world(s=[]), {"a": ["x"], "b": ["v", "v"]})

    def test_of_parts(self):
        chance = random.Random(48)
        for number, world in enumerate(chance_worlds(60, 49)):
            things = {sort: [x for x in world.things(sort) if chance.random() < 0.6] for sort in "ab"}
            part = part_of(world, {sort: things[sort][::-1] for sort in "ab"})
            self.assertEqual(part.told()[0], things)
            for ends, term in chance_terms(6, 4, 100 + number, FLAT):
                inside = [(x, y) for x, y in worth(world, term).pairs() if x in things[ends[0]] and y in things[ends[1]]]
                self.assertEqual(worth(part, term).pairs(), inside)
            for _, term in chance_terms(6, 5, 200 + number, (KEPT,)):
                self.assertTrue(set(worth(part, term).pairs()) <= set(worth(world, term).pairs()))

    def test_wholes_obey(self):
        chance, count = random.Random(50), 0
        for number in range(200):
            world = chance_world(chance, CHAIN)
            things = {sort: [x for x in world.things(sort) if chance.random() < 0.5] for sort in world.frame().sorts()}
            try:
                part = whole_part(world, things)
            except NotTotal as wrong:
                self.assertFalse(is_whole(world, world.told()[0]), wrong)
                continue
            count += 1
            self.assertTrue(is_whole(world, part.told()[0]))
            self.assertTrue(all(x in part.things(sort) for sort in things for x in things[sort]))
            self.assertTrue(obeys(Book(CHAIN, []), part))
        self.assertGreater(count, 40)


class Products(Case):
    def test_product(self):
        world = World(FRAME, {"a": ["x", "y"], "b": ["w"]}, {"r": [("x", "w")], "s": [], "t": [("x", "y"), ("y", "y")], "u": []})
        made, names = self.unchanged(product, world, WORLD)
        self.assertEqual(written(names), written({
            "a": [("x", "x"), ("x", "y"), ("x", "z"), ("y", "x"), ("y", "y"), ("y", "z")], "b": [("w", "w"), ("w", "x")]}))
        self.assertEqual(made.told()[0], {"a": ["p0", "p1", "p2", "p3", "p4", "p5"], "b": ["p0", "p1"]})
        self.assertEqual(made.relation("r").pairs(), [("p0", "p0"), ("p0", "p1"), ("p1", "p1")])
        self.assertEqual(made.relation("t").pairs(), [("p0", "p4"), ("p1", "p5"), ("p2", "p5"), ("p3", "p4"), ("p4", "p5"), ("p5", "p5")])
        self.told_anew(product, world, WORLD)

    def test_sum(self):
        world = World(FRAME, {"a": ["x", "y"], "b": ["w"]}, {"r": [("y", "w")], "s": [], "t": [("x", "y")], "u": [("w", "w")]})
        made, names = self.unchanged(summed, world, WORLD)
        self.assertEqual(written(names), written({"a": [(0, "x"), (0, "y"), (1, "x"), (1, "y"), (1, "z")],
                                                  "b": [(0, "w"), (1, "w"), (1, "x")]}))
        self.assertEqual(made.told(), ({"a": ["s0", "s1", "s2", "s3", "s4"], "b": ["s0", "s1", "s2"]}, {
            "r": [("s1", "s0"), ("s2", "s1"), ("s2", "s2"), ("s3", "s2")], "s": [("s1", "s4")],
            "t": [("s0", "s1"), ("s2", "s3"), ("s3", "s4"), ("s4", "s4")], "u": [("s0", "s0")]}))
        self.told_anew(summed, world, WORLD)

    def test_with_an_empty_world(self):
        self.assertEqual(product(WORLD, EMPTY), (EMPTY, {"a": [], "b": []}))
        self.assertEqual(product(EMPTY, WORLD), (EMPTY, {"a": [], "b": []}))
        self.assertEqual(summed(EMPTY, EMPTY), (EMPTY, {"a": [], "b": []}))
        made, names = summed(EMPTY, WORLD)
        self.assertEqual(names, {"a": [(1, "x"), (1, "y"), (1, "z")], "b": [(1, "w"), (1, "x")]})
        self.assertEqual(made.relation("r").pairs(), [("s0", "s0"), ("s0", "s1"), ("s1", "s1")])
        self.assertEqual(list(product(chain_world(), chain_world())[1]), ["c", "a", "b"])

    def test_mixed_frames(self):
        for call in (product, summed):
            self.fails(MixedFrames, {}, call, WORLD, chain_world())

    def test_of_products_and_sums(self):
        chance = random.Random(51)
        in_sums = ("other", "all", "rest")
        for number in range(40):
            one, other = chance_world(chance, FRAME), chance_world(chance, FRAME)
            made, names = product(one, other)
            for (first, second), term in chance_terms(6, 4, 300 + number, (*PLAIN, "joined")):
                some, others = worth(one, term), worth(other, term)
                found = {(names[first][int(p[1:])], names[second][int(q[1:])]) for p, q in worth(made, term).pairs()}
                self.assertEqual(found, {((x, u), (y, v)) for x, y in some.pairs() for u, v in others.pairs()})
            made, names = summed(one, other)
            for (first, second), term in chance_terms(6, 4, 400 + number, in_sums):
                found = {(names[first][int(p[1:])], names[second][int(q[1:])]) for p, q in worth(made, term).pairs()}
                both = {((side, x), (side, y)) for side in (0, 1) for x, y in worth((one, other)[side], term).pairs()}
                self.assertEqual(found, both)

    def test_large_ones(self):
        large = product(product(WORLD, WORLD)[0], product(WORLD, WORLD)[0])[0]
        self.assertEqual(len(large.things("a")), 81)
        self.assertEqual(len(large.relation("t")), 81)
        term = ("cut", ("then", T, ("turned", T)), ("all", "a", "a"))
        self.assertEqual(len(worth(large, term)), len(worth(WORLD, term)) ** 4)
        self.assertTrue(obeys(Book(FRAME, []), large))


class Folded(Case):
    def test_examples(self):
        made = self.unchanged(folded, WORLD, {"a": [["z", "x"], ["y"]]})
        self.assertEqual(made.told(), ({"a": ["x", "y"], "b": ["w", "x"]}, {
            "r": [("x", "w"), ("x", "x"), ("y", "x")], "s": [("w", "x")], "t": [("x", "x"), ("x", "y"), ("y", "x")], "u": []}))
        self.assertEqual(folded(WORLD, {}), WORLD)
        self.assertEqual(folded(WORLD, {"a": [[], ("y",), (), ["z"], ["x"]], "b": (["x"], ["w"], [])}), WORLD)
        self.assertEqual(folded(WORLD, {"b": [["x", "w"]], "a": [["z", "y", "x"]]}).told(), (
            {"a": ["x"], "b": ["w"]}, {"r": [("x", "w")], "s": [("w", "x")], "t": [("x", "x")], "u": []}))
        self.assertEqual(folded(WORLD, {"a": [["y", "z"], ["x"]]}).things("a"), ["x", "y"])
        self.assertEqual(folded(EMPTY, {"a": [], "b": [[]]}), EMPTY)

    def test_wrong_classes(self):
        self.fails(BadWorld, {"name": "B"}, folded, WORLD, {"a": [[None]], "q": [], "B": []})
        self.fails(BadWorld, {"name": "t"}, folded, WORLD, {"a": [[None]], "t": []})
        for value in ODD_VALUES + ["w"]:
            self.fails(UnknownName, {"name": value}, folded, WORLD, {"b": [["q"]], "a": [["x"], ["y", value, "y"], ["q"]]})
        self.fails(TwiceTold, {"name": "y"}, folded, WORLD, {"b": [["q"]], "a": [["x"], ["y", "y"], ["q"]]})
        self.fails(TwiceTold, {"name": "x"}, folded, WORLD, {"a": [["x"], ["y", "x"], ["q"]]})
        self.fails(NotTold, {"name": "y"}, folded, WORLD, {"b": [["q"]], "a": [["x"]]})
        self.fails(NotTold, {"name": "w"}, folded, WORLD, {"b": [], "a": [["z"], ["y", "x"]]})
        self.fails(NotTold, {"name": "x"}, folded, WORLD, {"b": [["w"]]})
        self.fails(UnknownName, {"name": "q"}, folded, WORLD, {"b": [["w"]], "a": [["q"]]})

    def test_of_foldings(self):
        chance = random.Random(52)
        for number in range(60):
            world = chance_world(chance, FRAME)
            classes, class_of = {}, {}
            for sort in "ab":
                classes[sort] = [[], [], []]
                for x in world.things(sort):
                    chance.choice(classes[sort]).insert(0, x)
                for members in classes[sort]:
                    for x in members:
                        class_of[sort, x] = min(members, key=world.things(sort).index)
            made = folded(world, classes)
            for name, first, second in FRAME.letters():
                self.assertEqual(set(made.relation(name).pairs()),
                                 {(class_of[first, x], class_of[second, y]) for x, y in world.relation(name).pairs()})
            for (first, second), term in chance_terms(6, 4, 500 + number, ("other", "rest")):
                led = {(class_of[first, x], class_of[second, y]) for x, y in worth(world, term).pairs()}
                self.assertTrue(led <= set(worth(made, term).pairs()))


class Whole(Case):
    def test_wholes_obey_what_the_world_obeys(self):
        chance, count = random.Random(53), 0
        frame = Frame(["a", "b"], FRAME.letters(), [("r", "on")])
        for _ in range(300):
            world = chance_world(chance, frame)
            ends = (chance.choice("ab"), chance.choice("ab"))
            book = Book(frame, [(chance_term(chance, ends, 4, (KEPT,)), chance_term(chance, ends, 2, FLAT))])
            if obeys(book, world):
                things = {sort: [x for x in world.things(sort) if chance.random() < 0.5] for sort in "ab"}
                if is_whole(world, things):
                    self.assertTrue(obeys(book, part_of(world, things)))
                self.assertTrue(obeys(book, whole_part(world, things)))
                count += 1
        self.assertGreater(count, 40)


if __name__ == "__main__":
    unittest.main()
