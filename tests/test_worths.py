"""Worths of terms, and reasons (S4.3, S4.4)."""

import itertools
import unittest

from pairlaws.errors import BadTerm, UnknownName
from pairlaws.forms import pushed
from pairlaws.relations import Relation
from pairlaws.terms import ends_of
from pairlaws.worlds import World
from pairlaws.worths import holds_at, judge_reason, reason, worth
from tests.support import ODD_VALUES, Case
from tests.termsupport import FRAME, R, S, T, U, chance_terms, chance_worlds

WORLD = World(FRAME, {"a": ["x", "y", "z"], "b": ["x", "w"]}, {
    "r": [("x", "x"), ("y", "w")], "s": [("w", "z")], "t": [("x", "y"), ("y", "z"), ("z", "z")], "u": []})
EMPTY = World(FRAME, {"a": [], "b": []}, {"r": [], "s": [], "t": [], "u": []})
ONE = World(FRAME, {"a": ["n"], "b": []}, {"r": [], "s": [], "t": [], "u": []})


def meant(world, term):
    """The set of pairs that the document tells for a term."""
    word, *told = term
    if word == "letter":
        return set(world.relation(told[0]).pairs())
    if word in ("same", "other"):
        things = world.things(told[0])
        return {(x, y) for x in things for y in things if (x == y) == (word == "same")}
    if word in ("none", "all"):
        return {(x, y) for x in world.things(told[0]) for y in world.things(told[1])} if word == "all" else set()
    below = [meant(world, part) for part in told]
    if word == "rest":
        first, second = ends_of(world.frame(), term)
        return {(x, y) for x in world.things(first) for y in world.things(second)} - below[0]
    if word == "turned":
        return {(y, x) for x, y in below[0]}
    if word == "joined":
        return below[0] | below[1]
    if word == "cut":
        return below[0] & below[1]
    if word == "then":
        return {(x, z) for x, y in below[0] for u, z in below[1] if y == u}
    grown = set(below[0])
    if word == "walked":
        grown |= {(x, x) for x in world.things(ends_of(world.frame(), term)[0])}
    while True:
        more = grown | {(x, z) for x, y in grown for u, z in grown if y == u}
        if more == grown:
            return grown
        grown = more


class Worth(Case):
    def test_each_form(self):
        a, b = ["x", "y", "z"], ["x", "w"]
        for term, sources, targets, pairs in (
                (R, a, b, [("x", "x"), ("y", "w")]), (("same", "b"), b, b, [("x", "x"), ("w", "w")]),
                (("other", "b"), b, b, [("x", "w"), ("w", "x")]), (("none", "a", "b"), a, b, []),
                (("all", "b", "b"), b, b, [("x", "x"), ("x", "w"), ("w", "x"), ("w", "w")]),
                (("rest", R), a, b, [("x", "w"), ("y", "x"), ("z", "x"), ("z", "w")]),
                (("turned", R), b, a, [("x", "x"), ("w", "y")]), (("joined", R, ("turned", S)), a, b,
                                                                  [("x", "x"), ("y", "w"), ("z", "w")]),
                (("cut", T, ("same", "a")), a, a, [("z", "z")]), (("then", R, S), a, a, [("y", "z")]),
                (("closed", T), a, a, [("x", "y"), ("x", "z"), ("y", "z"), ("z", "z")]),
                (("walked", T), a, a, [("x", "x"), ("x", "y"), ("x", "z"), ("y", "y"), ("y", "z"), ("z", "z")]),
                (("walked", U), b, b, [("x", "x"), ("w", "w")])):
            self.assertEqual(self.unchanged(worth, WORLD, term), Relation(sources, targets, pairs))

    def test_empty_and_one(self):
        for word in ("closed", "walked"):
            self.assertEqual(worth(EMPTY, (word, T)), Relation([], [], []))
            self.assertEqual(worth(ONE, (word, T)).pairs(), [("n", "n")] if word == "walked" else [])
        self.assertEqual(worth(ONE, ("rest", R)), Relation(["n"], [], []))
        self.assertEqual(worth(ONE, ("rest", T)).pairs(), [("n", "n")])
        self.assertEqual(worth(ONE, ("other", "a")).pairs(), [])
        self.assertEqual(worth(ONE, ("then", ("all", "a", "b"), ("all", "b", "a"))).pairs(), [])

    def test_as_it_is_meant(self):
        worlds = list(chance_worlds(40, 42))
        for number, (ends, term) in enumerate(chance_terms(300, 5, 43)):
            world = worlds[number % len(worlds)]
            value = worth(world, term)
            self.assertEqual((value.sources(), value.targets()), (world.things(ends[0]), world.things(ends[1])))
            self.assertEqual(set(value.pairs()), meant(world, term))
            self.assertEqual(worth(world, pushed(term)), value)

    def test_holds_at(self):
        for x, y in itertools.product("xyz", "xw"):
            self.assertIs(self.unchanged(holds_at, WORLD, R, x, y), (x, y) in [("x", "x"), ("y", "w")])
        self.assertIs(holds_at(WORLD, ("closed", T), "x", "z"), True)
        self.assertIs(holds_at(WORLD, ("closed", T), "z", "x"), False)

    def test_wrong_values(self):
        for call, more in ((holds_at, ()), (reason, ()), (judge_reason, (("plain",),))):
            for value in ODD_VALUES + [("letter", "q"), ("letter", True), ["letter", "r"], ("same", "r"), ("same", ["a"])]:
                self.fails(BadTerm, {"path": ()}, call, WORLD, value, None, None, *more)
                self.fails(BadTerm, {"path": (0, 1)}, call, WORLD, ("rest", ("cut", R, value)), "q", "q", *more)
            self.fails(BadTerm, {"path": (1,)}, call, WORLD, ("then", R, ("closed", R)), "q", "q", *more)
            for value in ODD_VALUES + ["w", "q"]:
                self.fails(UnknownName, {"name": value}, call, WORLD, R, value, "q", *more)
            for value in ODD_VALUES + ["z", "q"]:
                self.fails(UnknownName, {"name": value}, call, WORLD, R, "z", value, *more)
        for value in ODD_VALUES:
            self.fails(BadTerm, {"path": (0,)}, worth, WORLD, ("turned", value))


NAMES = ["n0", "n1", "n2"]
SOME_NAMES = [names for count in range(4) for names in itertools.product(NAMES, repeat=count)]
VALUES = [(word,) for word in ("plain", "look", "left", "right", "both", "nowhere", "through", "walk", "shut", "x")]
VALUES += [("through", name) for name in NAMES] + [("through", "q"), ("through", ("n0",)), ("through", "n0", "n0")]
VALUES += [(word, names) for word in ("walk", "shut") for names in SOME_NAMES]
VALUES += [(word, list(names)) for word in ("walk", "shut") for names in SOME_NAMES]
VALUES += [("walk", ("n0", "q")), ("shut", ("q",)), ("shut", (["n0"],)), ("walk", (True, "n0")), ("walk", None), ["plain"],
           ("shut", "n0"), ("walk", ("n0", "n0"), ()), "plain", ("plain", ()), [("plain",)], ["walk", ("n0", "n0")]]


def is_reason(world, term, x, y, value):
    """Whether a value is a reason, read from the document form by form."""
    word, *told = term
    if not isinstance(value, tuple) or not value:
        return False
    held = (x, y) in meant(world, term)
    if word in ("letter", "same", "other", "none", "all"):
        return value == ("plain",)
    below = [meant(world, part) for part in told]
    if word in ("rest", "turned"):
        return value == ("look",)
    if word in ("joined", "cut"):
        sides = [("left",)] * (((x, y) in below[0]) == held) + [("right",)] * (((x, y) in below[1]) == held)
        return value in ([("both",)] if held == (word == "cut") else sides)
    if word == "then":
        if not held:
            return value == ("nowhere",)
        return len(value) == 2 and value[0] == "through" and any(
            u == x and b == y and z == a and z == value[1] for u, z in below[0] for a, b in below[1])
    if len(value) != 2 or value[0] != ("walk" if held else "shut") or not isinstance(value[1], tuple):
        return False
    names, things = value[1], world.things(ends_of(world.frame(), term)[0])
    if held and word == "walked" and x == y and names == (x,):
        return True
    if held:
        return len(names) > 1 and names[0] == x and names[-1] == y and all(step in below[0] for step in zip(names, names[1:]))
    if not all(name in things for name in names) or y in names or len(set(names)) < len(names):
        return False
    if [things.index(name) for name in names] != sorted(things.index(name) for name in names):
        return False
    starts = list(names) + ([x] if word == "closed" else [])
    return all(b in names for a, b in below[0] if a in starts) and (word == "closed" or x in names)


class Reasons(Case):
    def test_all_values(self):
        counts = {True: 0, False: 0}
        worlds = list(chance_worlds(8, 44, words=NAMES))
        for number, (ends, term) in enumerate(chance_terms(60, 3, 45)):
            world = worlds[number % len(worlds)]
            for x, y in itertools.product(world.things(ends[0]), world.things(ends[1])):
                told = self.unchanged(reason, world, term, x, y)
                self.assertTrue(is_reason(world, term, x, y, told), (term, x, y, told))
                for value in VALUES:
                    right = is_reason(world, term, x, y, value)
                    counts[right] += 1
                    self.assertIs(judge_reason(world, term, x, y, value), right, (term, x, y, value))
                    if right and told[0] == "walk":
                        self.assertLessEqual(len(told[1]), len(value[1]))
        self.assertTrue(min(counts.values()) > 200, counts)

    def test_odd_values(self):
        for term in (T, ("rest", T), ("joined", T, T), ("cut", T, T), ("then", T, T), ("closed", T), ("walked", T)):
            for y in "xz":
                self.judged(judge_reason, (WORLD, term, "x", y), [reason(WORLD, term, "x", y)])

    def test_least_walks(self):
        names = ["a", "b", "c", "d"]
        pairs = [("a", "b"), ("b", "c"), ("c", "d"), ("a", "c"), ("d", "a"), ("b", "b")]
        world = World(FRAME, {"a": names, "b": []}, {"r": [], "s": [], "t": pairs, "u": []})
        self.assertEqual(reason(world, ("closed", T), "a", "d"), ("walk", ("a", "c", "d")))
        self.assertEqual(reason(world, ("closed", T), "a", "a"), ("walk", ("a", "c", "d", "a")))
        self.assertEqual(reason(world, ("walked", T), "a", "a"), ("walk", ("a",)))
        self.assertEqual(reason(world, ("walked", T), "d", "b"), ("walk", ("d", "a", "b")))
        self.assertEqual(reason(world, ("closed", T), "b", "b"), ("walk", ("b", "b")))
        self.assertIs(judge_reason(world, ("walked", T), "a", "a", ("walk", ("a", "c", "d", "a"))), True)
        self.assertIs(judge_reason(world, ("closed", T), "a", "a", ("walk", ("a",))), False)
        self.assertIs(judge_reason(world, ("closed", T), "a", "d", ("walk", ("a", "b", "b", "c", "d"))), True)
        self.assertIs(judge_reason(world, ("closed", T), "a", "d", ("walk", ["a", "c", "d"])), False)

    def test_shut_names(self):
        closed, walked = ("closed", T), ("walked", T)
        self.assertIs(judge_reason(WORLD, closed, "z", "x", ("shut", ("z",))), True)
        self.assertIs(judge_reason(WORLD, closed, "z", "x", ("shut", ("y", "z"))), True)
        self.assertIs(judge_reason(WORLD, closed, "z", "x", ("shut", ("z", "y"))), False)
        self.assertIs(judge_reason(WORLD, walked, "y", "x", ("shut", ("y", "z"))), True)
        self.assertIs(judge_reason(WORLD, walked, "y", "x", ("shut", ("z",))), False)
        self.assertIs(judge_reason(WORLD, walked, "y", "x", ("shut", ("y",))), False)
        self.assertIs(judge_reason(WORLD, walked, "y", "x", ("shut", ("x", "y", "z"))), False)
        self.assertIs(judge_reason(WORLD, walked, "x", "y", ("walk", ("x",))), False)
        self.assertIs(judge_reason(WORLD, walked, "x", "y", ("walk", ("x", "y"))), True)
        self.assertIs(judge_reason(WORLD, closed, "y", "x", ("shut", ("z",))), True)
        self.assertIs(judge_reason(WORLD, closed, "x", "x", ("shut", ("x", "y", "z"))), False)


if __name__ == "__main__":
    unittest.main()
