"""Plans run in worlds, signs of letters, pairs on which a pair rests (S8.2, S8.3)."""

import itertools
import unittest

from pairlaws.errors import BadPlan, BadTerm, HasRest, UnknownName
from pairlaws.plans import compiled, plan_term
from pairlaws.running import row_of, run_plan, sign_of, support_of
from pairlaws.terms import ends_of
from pairlaws.worlds import World, with_pair
from pairlaws.worths import worth
from tests.casesupport import seeded
from tests.support import ODD_VALUES, Case
from tests.termsupport import FRAME, R, S, T, U, below, chance_term, chance_terms, chance_worlds, nested
from tests.test_plans import START, WRONG_ROWS

RS = ("then", R, S)
WORLD = World(FRAME, {"a": ["x", "y", "z"], "b": ["w", "x"]}, {
    "r": [("x", "w"), ("y", "x"), ("x", "x")], "s": [("w", "z"), ("x", "z")], "t": [("x", "y"), ("y", "z"), ("x", "z")], "u": []})
EMPTY = World(FRAME, {"a": [], "b": []}, {"r": [], "s": [], "t": [], "u": []})


class RunPlan(Case):
    def test_examples(self):
        rows = (T, R, ("closed", 0), S, ("then", 1, 3), ("rest", 4), T)
        found = self.unchanged(run_plan, WORLD, rows)
        terms = [T, R, ("closed", T), S, RS, ("rest", RS), T]
        self.assertEqual(found, [worth(WORLD, term) for term in terms])
        self.assertEqual(found[4].pairs(), [("x", "z"), ("y", "z")])
        self.assertIsInstance(found, list)
        self.told_anew(run_plan, WORLD, rows)

    def test_as_it_is_meant(self):
        worlds = list(chance_worlds(60, 231))
        for world, (_, term) in zip(worlds, chance_terms(60, 5, 232)):
            rows = compiled(FRAME, term)
            self.assertEqual(run_plan(world, rows)[-1], worth(world, term))
            for count in range(1, len(rows) + 1):
                if count > len(rows) - 3:
                    self.assertEqual(run_plan(world, rows)[count - 1], worth(world, plan_term(FRAME, rows[:count])))

    def test_many_rows(self):
        # The term of the last row has 2 ** 301 - 1 parts.
        rows = (T,) + tuple([("joined", number, number) for number in range(300)])
        self.assertEqual(run_plan(WORLD, rows), [worth(WORLD, T)] * 301)
        self.assertEqual(len(run_plan(EMPTY, rows)[300]), 0)

    def test_errors(self):
        for value in ODD_VALUES + [[R], ()]:
            self.fails(BadPlan, {"number": 0}, run_plan, WORLD, value)
        for row in WRONG_ROWS:
            self.fails(BadPlan, {"number": 5}, run_plan, WORLD, START + (row,))


class RowOf(Case):
    def test_examples(self):
        self.assertEqual(self.unchanged(row_of, WORLD, R, "x"), ["w", "x"])
        self.assertEqual(row_of(WORLD, ("turned", R), "x"), ["x", "y"])
        self.assertEqual(row_of(WORLD, RS, "z"), [])
        self.told_anew(row_of, WORLD, ("closed", T), "x")

    def test_as_it_is_meant(self):
        for world, (ends, term) in zip(chance_worlds(60, 233), chance_terms(60, 4, 234)):
            for x in world.things(ends[0]):
                self.assertEqual(row_of(world, term, x), [y for u, y in worth(world, term).pairs() if u == x])

    def test_errors(self):
        for value in ODD_VALUES + [["letter", "r"]]:
            self.fails(BadTerm, {"path": ()}, row_of, WORLD, value, "q")
        self.fails(BadTerm, {"path": (1,)}, row_of, WORLD, ("then", R, ("closed", R)), "q")
        for value in ODD_VALUES + ["w", "q"]:
            self.fails(UnknownName, {"name": value}, row_of, WORLD, R, value)
        self.fails(UnknownName, {"name": "y"}, row_of, WORLD, ("turned", R), "y")
        self.fails(UnknownName, {"name": "x"}, row_of, EMPTY, R, "x")


def signs(term, name, odd=False):
    if term == ("letter", name):
        return [odd]
    return [sign for part in below(term) for sign in signs(part, name, odd != (term[0] == "rest"))]


class SignOf(Case):
    def test_examples(self):
        for term, right in [
                (R, "up"), (("rest", R), "down"), (("rest", ("rest", R)), "up"), (("turned", ("rest", R)), "down"),
                (("cut", R, ("rest", R)), "both"), (("cut", ("rest", R), R), "both"), (S, "none"), (("same", "a"), "none"),
                (("joined", ("rest", R), ("rest", ("cut", R, R))), "down"), (("rest", ("then", R, ("rest", RS))), "both"),
                (("rest", ("then", ("all", "a", "a"), ("rest", R))), "up"), (("then", R, ("walked", ("then", S, R))), "up"),
                (("rest", S), "none"), (("rest", ("joined", R, ("turned", S))), "down")]:
            self.assertEqual(self.unchanged(sign_of, term, "r"), right, term)

    def test_any_string(self):
        for name in ("", "R", "letter", "r s", "a", "b", "x" * 40, "0"):
            self.assertEqual(sign_of(("then", R, ("rest", ("same", "b"))), name), "none")

    def test_as_it_is_meant(self):
        for _, term in chance_terms(150, 6, 235):
            for name in "rstu":
                found = set(signs(term, name))
                right = "none" if not found else "both" if len(found) == 2 else "down" if True in found else "up"
                self.assertEqual(sign_of(term, name), right)

    def test_what_it_tells(self):
        chance = seeded(236)
        for world, (_, term) in zip(chance_worlds(120, 237), chance_terms(120, 5, 238)):
            name = chance.choice("rstu")
            first, second = FRAME.ends(name)
            if not world.things(first) or not world.things(second):
                continue
            more = worth(with_pair(world, name, chance.choice(world.things(first)), chance.choice(world.things(second))), term)
            if sign_of(term, name) in ("up", "none"):
                self.assertTrue(worth(world, term) <= more)
            if sign_of(term, name) in ("down", "none"):
                self.assertTrue(more <= worth(world, term))


def worlds_with_at_least(world, support, chance, count):
    """Worlds with the same things whose letters have at least these pairs: the least one, and some others."""
    things, _ = world.told()
    least = {name: [(a, b) for letter, a, b in support if letter == name] for name, _, _ in world.frame().letters()}
    yield World(world.frame(), things, least)
    for _ in range(count):
        pairs = {name: least[name] + [(x, y) for x in things[first] for y in things[second] if chance.random() < 0.3]
                 for name, first, second in world.frame().letters()}
        yield World(world.frame(), things, pairs)


class SupportOf(Case):
    def judge(self, world, term, x, y, found, chance):
        if (x, y) not in worth(world, term):
            self.assertIs(found, None)
            return
        self.assertIsInstance(found, list)
        every = [(name, a, b) for name, _, _ in world.frame().letters() for a, b in world.relation(name).pairs()]
        self.assertEqual(found, [entry for entry in every if entry in found])
        for other in worlds_with_at_least(world, found, chance, 3):
            self.assertIn((x, y), worth(other, term))

    def test_examples(self):
        for term, x, y, right in [
                (R, "x", "w", [("r", "x", "w")]), (R, "y", "w", None), (("same", "a"), "y", "y", []),
                (("other", "a"), "y", "x", []), (("all", "a", "b"), "z", "w", []), (("none", "a", "b"), "z", "w", None),
                (("turned", R), "w", "x", [("r", "x", "w")]), (("walked", T), "z", "z", []),
                (("closed", T), "z", "z", None), (("closed", T), "y", "z", [("t", "y", "z")]),
                (("walked", T), "x", "y", [("t", "x", "y")]), (("walked", T), "z", "y", None),
                (("turned", ("walked", T)), "z", "y", [("t", "y", "z")]),
                (("cut", ("all", "a", "a"), T), "x", "y", [("t", "x", "y")]),
                (("then", ("turned", S), U), "z", "w", None),
                (("then", R, ("then", S, ("turned", T))), "y", "y", [("r", "y", "x"), ("s", "x", "z"), ("t", "y", "z")])]:
            self.assertEqual(self.unchanged(support_of, WORLD, term, x, y), right, term)
        self.told_anew(support_of, WORLD, ("joined", T, RS), "x", "z")

    def test_choices(self):
        self.assertIn(support_of(WORLD, ("joined", T, RS), "x", "z"),
                      ([("t", "x", "z")], [("r", "x", "w"), ("s", "w", "z")], [("r", "x", "x"), ("s", "x", "z")]))
        self.assertIn(support_of(WORLD, ("joined", ("none", "a", "a"), ("then", T, T)), "x", "z"),
                      ([("t", "x", "y"), ("t", "y", "z")],))

    def test_as_it_is_meant(self):
        chance = seeded(239)
        for world in chance_worlds(60, 240):
            ends = (chance.choice("ab"), chance.choice("ab"))
            term = chance_term(chance, ends, chance.randint(1, 6), ("rest",))
            for x, y in itertools.product(world.things(ends[0]), world.things(ends[1])):
                self.judge(world, term, x, y, support_of(world, term, x, y), chance)

    def test_long_walks(self):
        things = {"a": ["a0", "a1", "a2", "a3"], "b": []}
        path = [("a2", "a1"), ("a1", "a3"), ("a3", "a0")]
        world = World(FRAME, things, {"r": [], "s": [], "t": path, "u": []})
        for word in ("closed", "walked"):
            self.assertEqual(support_of(world, (word, T), "a2", "a0"), [("t", "a1", "a3"), ("t", "a2", "a1"), ("t", "a3", "a0")])
            self.assertEqual(support_of(world, (word, T), "a1", "a0"), [("t", "a1", "a3"), ("t", "a3", "a0")])

    def test_large_terms(self):
        chance = seeded(241)
        things = {"a": [f"a{number}" for number in range(6)], "b": [f"b{number}" for number in range(6)]}
        ring = [(f"a{number}", f"a{(number + 1) % 6}") for number in range(6)]
        world = World(FRAME, things, {"r": [("a0", "b0")], "s": [("b0", "a3")], "t": ring, "u": []})
        term = T
        for _ in range(3):
            term = ("then", ("closed", ("then", term, term)), ("walked", ("joined", term, RS)))
        self.assertEqual(ends_of(FRAME, term), ("a", "a"))
        for x, y in itertools.product(things["a"][:2], things["a"]):
            self.judge(world, term, x, y, support_of(world, term, x, y), chance)

    def test_errors(self):
        for value in ODD_VALUES + [["letter", "r"]]:
            self.fails(BadTerm, {"path": ()}, support_of, WORLD, value, "q", "q")
        self.fails(BadTerm, {"path": (0,)}, support_of, WORLD, ("rest", ("then", R, R)), "q", "q")
        self.fails(BadTerm, {"path": (0,) * 150}, support_of, WORLD, nested("closed", None, 150), "q", "q")
        for term in (("rest", R), ("joined", R, ("turned", ("rest", S))), ("rest", ("rest", R))):
            self.fails(HasRest, {}, support_of, WORLD, term, "q", "q")
            self.fails(HasRest, {}, support_of, WORLD, term, "x", "w")
        for value in ODD_VALUES + ["w", "q"]:
            self.fails(UnknownName, {"name": value}, support_of, WORLD, R, value, "q")
        for value in ODD_VALUES + ["y", "q"]:
            self.fails(UnknownName, {"name": value}, support_of, WORLD, R, "x", value)
            if value != "y":
                self.fails(UnknownName, {"name": value}, support_of, WORLD, ("none", "a", "a"), "x", value)
        self.fails(UnknownName, {"name": "x"}, support_of, EMPTY, T, "x", "x")



if __name__ == "__main__":
    unittest.main()
