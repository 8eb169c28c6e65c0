"""Worlds after changes, and what terms gain and lose by them (S8.4)."""

import itertools
import unittest

from pairlaws.differences import all_differences, difference_of, net_difference, world_behind
from pairlaws.errors import BadDeed, BadPlan, BadTerm, UnknownName
from pairlaws.plans import compiled
from pairlaws.relations import no_pair
from pairlaws.running import run_plan, sign_of
from pairlaws.worlds import World, with_pair, without_pair
from pairlaws.worths import worth
from tests.casesupport import seeded
from tests.support import ODD_VALUES, Case
from tests.termsupport import FRAME, R, S, T, chance_terms, chance_worlds
from tests.test_plans import START, WRONG_ROWS
from tests.test_running import EMPTY, RS, WORLD

BAD_DEEDS = ODD_VALUES + [("put",), ("put", "r", "x"), ("put", "r", "x", "w", "w"), ["put", "r", "x", "w"], ("add", "a", "q"),
                          ("Put", "r", "x", "w"), (None, "r", "x", "w"), (("put",), "r", "x", "w"), ("take", "r", "x"),
                          ("leave", "a", "x", "x"), "put ", {"put": 1, "r": 2, "x": 3, "w": 4}, ("all", ())]


def changes_of(world):
    return [(word, name, x, y) for word in ("put", "take") for name, first, second in FRAME.letters()
            for x in world.things(first) for y in world.things(second)]


class WorldBehind(Case):
    def test_examples(self):
        made = self.unchanged(world_behind, WORLD, ("put", "r", "z", "x"))
        self.assertEqual(made, with_pair(WORLD, "r", "z", "x"))
        self.assertEqual(made.relation("r").pairs(), [("x", "w"), ("x", "x"), ("y", "x"), ("z", "x")])
        made = self.unchanged(world_behind, WORLD, ("take", "r", "x", "x"))
        self.assertEqual(made, without_pair(WORLD, "r", "x", "x"))
        self.assertEqual(made.relation("r").pairs(), [("x", "w"), ("y", "x")])
        self.assertEqual(world_behind(WORLD, ("put", "r", "x", "w")), WORLD)
        self.assertEqual(world_behind(WORLD, ("take", "u", "w", "w")), WORLD)

    def fail_deeds(self, call, *args):
        for value in BAD_DEEDS:
            self.fails(BadDeed, {}, call, *args, value)
        for word in ("put", "take"):
            for value in ODD_VALUES + ["a", "x"]:
                self.fails(UnknownName, {"name": value}, call, *args, (word, value, "q", 0))
            for value in ODD_VALUES + ["w", "q"]:
                self.fails(UnknownName, {"name": value}, call, *args, (word, "r", value, 0))
            for value in ODD_VALUES + ["y", "q"]:
                self.fails(UnknownName, {"name": value}, call, *args, (word, "r", "x", value))

    def test_errors(self):
        self.fail_deeds(world_behind, WORLD)
        self.fail_deeds(difference_of, WORLD, RS)
        self.fail_deeds(all_differences, WORLD, (R, S))
        self.fail_deeds(lambda world, term, change: net_difference(world, term, [change]), WORLD, RS)
        self.fails(UnknownName, {"name": "x"}, world_behind, EMPTY, ("take", "t", "x", "x"))


class Differences(Case):
    def test_examples(self):
        gained, lost = self.unchanged(difference_of, WORLD, RS, ("put", "s", "w", "x"))
        self.assertEqual((gained.pairs(), lost.pairs()), ([("x", "x")], []))
        gained, lost = self.unchanged(difference_of, WORLD, ("rest", RS), ("put", "s", "w", "x"))
        self.assertEqual((gained.pairs(), lost.pairs()), ([], [("x", "x")]))
        # (x, z) has another way, by the thing x of b.
        gained, lost = difference_of(WORLD, RS, ("take", "s", "w", "z"))
        self.assertEqual((gained.pairs(), lost.pairs()), ([], []))
        gained, lost = difference_of(WORLD, ("turned", R), ("take", "r", "x", "w"))
        self.assertEqual((gained, lost.pairs()), (no_pair(["w", "x"], ["x", "y", "z"]), [("w", "x")]))
        self.assertIsInstance(difference_of(WORLD, RS, ("put", "s", "w", "x")), tuple)

    def test_as_it_is_meant(self):
        chance = seeded(251)
        for world, (_, term) in zip(chance_worlds(60, 252), chance_terms(60, 4, 253)):
            for change in chance.sample(changes_of(world), min(5, len(changes_of(world)))):
                before, after = worth(world, term), worth(world_behind(world, change), term)
                gained, lost = difference_of(world, term, change)
                self.assertEqual((gained, lost), (after - before, before - after))
                sign = sign_of(term, change[1])
                if sign in ("up", "none"):
                    self.assertEqual(len(lost if change[0] == "put" else gained), 0)
                if sign in ("down", "none"):
                    self.assertEqual(len(gained if change[0] == "put" else lost), 0)

    def test_all_of_a_plan(self):
        rows = (R, S, ("then", 0, 1), ("rest", 2), R)
        found = self.unchanged(all_differences, WORLD, rows, ("put", "r", "z", "w"))
        self.assertEqual([(gained.pairs(), lost.pairs()) for gained, lost in found], [
            ([("z", "w")], []), ([], []), ([("z", "z")], []), ([], [("z", "z")]), ([("z", "w")], [])])
        self.assertEqual([type(entry) for entry in found], [tuple] * 5)
        self.assertIsInstance(found, list)
        self.told_anew(all_differences, WORLD, rows, ("put", "r", "z", "w"))
        chance = seeded(254)
        for world, (_, term) in zip(chance_worlds(40, 255), chance_terms(40, 4, 256)):
            for change in chance.sample(changes_of(world), min(3, len(changes_of(world)))):
                rows = compiled(FRAME, term)
                before, after = run_plan(world, rows), run_plan(world_behind(world, change), rows)
                right = [(new - old, old - new) for old, new in zip(before, after)]
                self.assertEqual(all_differences(world, rows, change), right)
                self.assertEqual(right[-1], difference_of(world, term, change))

    def test_net(self):
        def net(term, *changes):
            gained, lost = self.unchanged(net_difference, WORLD, term, list(changes))
            return gained.pairs(), lost.pairs()
        put, take = ("put", "t", "z", "x"), ("take", "t", "z", "x")
        self.assertEqual(net(T), ([], []))
        self.assertEqual(net(T, put), ([("z", "x")], []))
        self.assertEqual(net(T, put, take), ([], []))
        self.assertEqual(net(T, take, put, put), ([("z", "x")], []))
        self.assertEqual(net(T, ("take", "t", "x", "y"), ("put", "t", "x", "y")), ([], []))
        self.assertEqual(net(("rest", T), put, ("take", "t", "x", "y")), ([("x", "y")], [("z", "x")]))
        self.assertEqual(net_difference(WORLD, T, (put,)), difference_of(WORLD, T, put))
        chance = seeded(257)
        for world, (_, term) in zip(chance_worlds(40, 258), chance_terms(40, 4, 259)):
            changes = [chance.choice(changes_of(world)) for _ in range(chance.randint(0, 6))] if changes_of(world) else []
            last = world
            for change in changes:
                last = world_behind(last, change)
            before, after = worth(world, term), worth(last, term)
            self.assertEqual(net_difference(world, term, changes), (after - before, before - after))

    def test_worlds_without_things(self):
        none = (no_pair([], []), no_pair([], []))
        self.assertEqual(net_difference(EMPTY, ("rest", RS), []), none)
        world = World(FRAME, {"a": ["x"], "b": []}, {"r": [], "s": [], "t": [], "u": []})
        self.assertEqual(difference_of(world, R, ("put", "t", "x", "x")), (no_pair(["x"], []), no_pair(["x"], [])))

    def test_terms_and_plans_first(self):
        for value, change in itertools.product(ODD_VALUES, (None, ("put", "q", 0, 0))):
            self.fails(BadTerm, {"path": ()}, difference_of, WORLD, value, change)
            self.fails(BadTerm, {"path": ()}, net_difference, WORLD, value, [change])
            self.fails(BadPlan, {"number": 0}, all_differences, WORLD, value, change)
        self.fails(BadTerm, {"path": (1,)}, difference_of, WORLD, ("then", R, ("closed", S)), None)
        for row in WRONG_ROWS:
            self.fails(BadPlan, {"number": 5}, all_differences, WORLD, START + (row,), None)

    def test_first_change_with_an_error(self):
        good = ("put", "t", "z", "x")
        self.fails(UnknownName, {"name": "q"}, net_difference, WORLD, T, [good, ("take", "t", "q", 0), None])
        self.fails(BadDeed, {}, net_difference, WORLD, T, [good, None, ("take", "t", "q", 0)])
        self.fails(UnknownName, {"name": 0}, net_difference, WORLD, T, [good, good, ("take", "t", "x", 0)])


if __name__ == "__main__":
    unittest.main()
