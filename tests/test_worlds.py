"""Worlds and worlds that differ a little (S4.1, S4.2)."""

import unittest

from pairlaws.errors import BadImages, BadName, BadWorld, TwiceTold, UnknownName
from pairlaws.frames import Frame
from pairlaws.relations import Relation
from pairlaws.worlds import World, renamed, with_pair, with_thing, without_pair, without_thing
from tests.support import NOT_WORDS, ODD_VALUES, Case, written
from tests.termsupport import FRAME, chance_worlds

SMALL = Frame(["b", "a"], [("r", "b", "a"), ("l", "a", "a")], [])
THINGS = {"a": ["x", "y"], "b": ["y", "z"]}
PAIRS = {"l": [("y", "x"), ("x", "y"), ("y", "x")], "r": [("z", "y"), ("y", "y"), ("y", "x")]}
WORLD = World(SMALL, THINGS, PAIRS)
# What callers may pass as things and as names in pairs.
NAMES = [None, 0, 1, True, False, ("x",), (), ["x"], [], {"x": "y"}, {}, 10 ** 30]


class Made(Case):
    def test_what_it_tells(self):
        world = self.unchanged(World, SMALL, THINGS, PAIRS)
        self.assertEqual(world.frame(), SMALL)
        self.assertEqual((world.things("b"), world.things("a")), (["y", "z"], ["x", "y"]))
        self.assertEqual(world.relation("r"), Relation(["y", "z"], ["x", "y"], [("y", "x"), ("y", "y"), ("z", "y")]))
        self.assertEqual(world.relation("l").pairs(), [("x", "y"), ("y", "x")])
        self.assertEqual(world.total(), 4)
        self.assertEqual(written(world.told()), written(({"b": ["y", "z"], "a": ["x", "y"]}, {
            "r": [("y", "x"), ("y", "y"), ("z", "y")], "l": [("x", "y"), ("y", "x")]})))

    def test_tuples_for_lists(self):
        self.assertEqual(World(SMALL, {"a": ("x", "y"), "b": ("y", "z")}, {"l": tuple(PAIRS["l"]), "r": tuple(PAIRS["r"])}),
                         WORLD)

    def test_empty_ones(self):
        world = World(SMALL, {"a": [], "b": ["x"]}, {"r": [], "l": []})
        self.assertEqual((world.things("a"), world.things("b"), world.total()), ([], ["x"], 1))
        self.assertEqual(world.relation("r"), Relation(["x"], [], []))
        self.assertEqual(World(Frame([], [], []), {}, {}).told(), ({}, {}))
        self.assertEqual(World(Frame([], [], []), {}, {}).total(), 0)

    def test_has(self):
        self.assertIs(WORLD.has("r", "y", "x"), True)
        self.assertIs(WORLD.has("r", "z", "x"), False)
        self.assertIs(WORLD.has("r", "x", "x"), False)
        for value in ODD_VALUES + ["x"]:
            self.assertIs(self.unchanged(WORLD.has, "r", value, "y"), False)
            self.assertIs(self.unchanged(WORLD.has, "l", "x", value), False)
        for value in ODD_VALUES + ["rr", "a", "x"]:
            self.fails(UnknownName, {"name": value}, WORLD.has, value, "y", "x")

    def test_unknown_sorts_and_letters(self):
        for value in ODD_VALUES + ["r", "aa", "x"]:
            self.fails(UnknownName, {"name": value}, WORLD.things, value)
        for value in ODD_VALUES + ["a", "rr", "x"]:
            self.fails(UnknownName, {"name": value}, WORLD.relation, value)

    def test_nothing_is_kept(self):
        things, pairs = {"a": ["x"], "b": ["x"]}, {"l": [("x", "x")], "r": []}
        world = World(SMALL, things, pairs)
        things["a"].append("y")
        pairs["l"].clear()
        pairs.clear()
        things.clear()
        self.assertEqual(world, World(SMALL, {"a": ["x"], "b": ["x"]}, {"l": [("x", "x")], "r": []}))
        self.told_anew(WORLD.told)
        self.told_anew(WORLD.things, "a")

    def test_told_makes_it_again(self):
        for world in chance_worlds(60, 41):
            things, pairs = world.told()
            self.assertEqual(World(FRAME, things, pairs), world)
            self.assertEqual((list(things), list(pairs)), (["a", "b"], ["r", "s", "t", "u"]))
            self.assertEqual(world.total(), len(things["a"]) + len(things["b"]))
            for name in pairs:
                self.assertEqual(world.relation(name).pairs(), pairs[name])
                self.assertEqual(world.relation(name).sources(), things[FRAME.ends(name)[0]])

    def test_equality_of_things_alone(self):
        frame = Frame(["a"], [], [])
        self.assertTrue(World(frame, {"a": ["x"]}, {}) == World(frame, {"a": ["x"]}, {}))
        self.assertFalse(World(frame, {"a": ["x"]}, {}) == World(frame, {"a": ["y"]}, {}))
        self.assertFalse(World(frame, {"a": ["x", "y"]}, {}) == World(frame, {"a": ["y", "x"]}, {}))

    def test_equality(self):
        def world(frame=SMALL, things=THINGS, **pairs):
            return World(frame, things, {**PAIRS, **pairs})
        self.assertTrue(world() == WORLD)
        self.assertTrue(world(r=[("y", "x"), ("z", "y"), ("y", "y")]) == WORLD)
        others = [world(r=[]), world(l=[("x", "y")]), world(things={"a": ["y", "x"], "b": ["y", "z"]}),
                  world(things={"a": ["x", "y", "q"], "b": ["y", "z"]}), world(Frame(["a", "b"], SMALL.letters(), [])),
                  world(Frame(["b", "a"], SMALL.letters(), [("r", "on")]))]
        for other in others + ODD_VALUES:
            self.assertFalse(WORLD == other)
            self.assertTrue(WORLD != other)


class Wrong(Case):
    def bad(self, error, name, things, pairs, frame=SMALL):
        self.fails(error, {"name": name}, World, frame, things, pairs)

    def test_keys(self):
        none = {"r": [], "l": []}
        self.bad(BadWorld, "b", {}, {})
        self.bad(BadWorld, "b", {"a": [None]}, {"q": []})
        self.bad(BadWorld, "a", {"b": [], "z": []}, none)
        self.bad(BadWorld, "A", {"b": [None], "a": [], "z": [], "A": []}, {})
        self.bad(BadWorld, "", {"r": [], "b": [], "a": [], "": []}, none)
        self.bad(BadWorld, "r", {"a": [None], "b": []}, {"l": [], "q": []})
        self.bad(BadWorld, "l", {"a": [None], "b": []}, {"r": [], "q": []})
        self.bad(BadWorld, "a", {"a": [None], "b": []}, {"r": [], "l": [], "q": [], "a": []})

    def test_things(self):
        none = {"r": [("?", "?")], "l": []}
        for value in NAMES + ["", "A", "1a", "a b", "abcdefghijklm", "a_"]:
            self.bad(BadName, value, {"a": ["x", "x"], "b": ["x", value, "x"]}, none)
            self.bad(BadName, value, {"a": ["x", value], "b": ["x", "y"]}, none)
        self.bad(TwiceTold, "x", {"a": [None], "b": ["y", "x", "x", None]}, none)
        self.bad(TwiceTold, "y", {"a": ["x", "y", "y", "x", None], "b": ["x", "y"]}, none)

    def test_pairs(self):
        for value in NAMES + ["q", "z", "A", ""]:
            self.bad(UnknownName, value, THINGS, {"l": [("y", value)], "r": PAIRS["r"]})
            self.bad(UnknownName, value, THINGS, {"l": [("q", "q")], "r": [("y", "x"), ("y", value), ("q", "q")]})
            self.bad(UnknownName, value if value != "z" else "q", THINGS,
                     {"l": [("q", "q")], "r": [("y", "x"), (value, "q"), ("q", "q")]})


class Changed(Case):
    def test_pairs(self):
        self.assertEqual(self.unchanged(with_pair, WORLD, "r", "z", "x").told(), (
            {"b": ["y", "z"], "a": ["x", "y"]},
            {"r": [("y", "x"), ("y", "y"), ("z", "x"), ("z", "y")], "l": [("x", "y"), ("y", "x")]}))
        self.assertEqual(self.unchanged(without_pair, WORLD, "r", "y", "y").relation("r").pairs(), [("y", "x"), ("z", "y")])
        self.assertEqual(with_pair(WORLD, "l", "x", "y"), WORLD)
        self.assertEqual(without_pair(WORLD, "l", "x", "x"), WORLD)
        self.assertEqual(with_pair(without_pair(WORLD, "r", "y", "x"), "r", "y", "x"), WORLD)

    def test_wrong_pairs(self):
        for call in (with_pair, without_pair):
            for value in ODD_VALUES + ["q", "r ", "b"]:
                self.fails(UnknownName, {"name": value}, call, WORLD, value, None, None)
                self.fails(UnknownName, {"name": value}, call, WORLD, "r", value, None)
                self.fails(UnknownName, {"name": value}, call, WORLD, "r", "y", value)
            self.fails(UnknownName, {"name": "x"}, call, WORLD, "r", "x", "x")
            self.fails(UnknownName, {"name": "z"}, call, WORLD, "l", "y", "z")

    def test_with_thing(self):
        made = self.unchanged(with_thing, WORLD, "b", "x")
        self.assertEqual(made.told(), ({"b": ["y", "z", "x"], "a": ["x", "y"]}, WORLD.told()[1]))
        for value in ODD_VALUES + ["r", "q"]:
            self.fails(UnknownName, {"name": value}, with_thing, WORLD, value, None)
        for value in NOT_WORDS:
            self.fails(BadName, {"name": value}, with_thing, WORLD, "a", value)
        self.fails(TwiceTold, {"name": "y"}, with_thing, WORLD, "b", "y")

    def test_without_thing(self):
        made = self.unchanged(without_thing, WORLD, "a", "y")
        self.assertEqual(made.told(), ({"b": ["y", "z"], "a": ["x"]}, {"r": [("y", "x")], "l": []}))
        made = without_thing(WORLD, "b", "y")
        self.assertEqual(made.told(), ({"b": ["z"], "a": ["x", "y"]}, {"r": [("z", "y")], "l": [("x", "y"), ("y", "x")]}))
        self.assertEqual(without_thing(with_thing(WORLD, "a", "new"), "a", "new"), WORLD)
        for value in ODD_VALUES + ["r", "q"]:
            self.fails(UnknownName, {"name": value}, without_thing, WORLD, value, None)
        for value in ODD_VALUES + ["z", "q"]:
            self.fails(UnknownName, {"name": value}, without_thing, WORLD, "a", value)

    def test_renamed(self):
        made = self.unchanged(renamed, WORLD, "a", ["y", "x"])
        self.assertEqual(made.told(), ({"b": ["y", "z"], "a": ["y", "x"]},
                                       {"r": [("y", "y"), ("y", "x"), ("z", "x")], "l": [("y", "x"), ("x", "y")]}))
        self.assertEqual(renamed(made, "a", ("x", "y")), WORLD)
        self.assertEqual(renamed(WORLD, "b", ["p", "q"]).relation("r").pairs(), [("p", "x"), ("p", "y"), ("q", "y")])
        empty = World(SMALL, {"a": [], "b": []}, {"r": [], "l": []})
        self.assertEqual(renamed(empty, "a", []), empty)

    def test_wrong_new_names(self):
        for value in ODD_VALUES + ["r", "q"]:
            self.fails(UnknownName, {"name": value}, renamed, WORLD, value, [])
        for names in ([], ["x"], ["x", "y", "z"], [None], ("x", "x", "x")):
            self.fails(BadImages, {}, renamed, WORLD, "a", names)
        for value in NAMES + ["", "A"]:
            self.fails(BadName, {"name": value}, renamed, WORLD, "a", [value, "x"])
            self.fails(BadName, {"name": value}, renamed, WORLD, "a", ["y", value])
        self.fails(TwiceTold, {"name": "q"}, renamed, WORLD, "b", ["q", "q"])
        self.fails(TwiceTold, {"name": "q"}, renamed, with_thing(WORLD, "b", "x"), "b", ["q", "q", None])


if __name__ == "__main__":
    unittest.main()
