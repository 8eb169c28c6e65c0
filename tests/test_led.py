"""Renamings, deeds and states led by maps (S10.5)."""

import unittest

from pairlaws.deeds import differences, edited, in_order
from pairlaws.errors import BadDeed, BadImages, BadName, MixedWorlds, NameMissing, PairError, TwiceTold, UnknownName
from pairlaws.frames import Frame
from pairlaws.images import back_of_map, led_relation
from pairlaws.led import led_deed, led_state, renaming_map
from pairlaws.maps import WorldMap, same_map
from pairlaws.terms import ends_of
from pairlaws.worlds import World
from pairlaws.worths import worth
from tests.casesupport import seeded
from tests.mapsupport import BARE, SQUARE, empty, square
from tests.storesupport import WORDS, chance_deed, chance_state, state_of
from tests.support import NOT_WORDS, ODD_VALUES, Case, written
from tests.termsupport import FRAME, R, S, T, U
from tests.test_deeds import BadDeeds
from tests.test_maps import IMAGES, SOURCE, TARGET, told

M = WorldMap(SOURCE, TARGET, IMAGES)


class Renaming(Case):
    def test_example(self):
        names = {"b": ("x", "w"), "a": ["z", "x", "q"]}
        m = self.unchanged(renaming_map, SOURCE, names)
        self.assertEqual(m.source(), SOURCE)
        self.assertEqual(m.target(), World(FRAME, {"a": ["z", "x", "q"], "b": ["x", "w"]}, {
            "r": [("z", "x"), ("x", "w")], "s": [("x", "q")], "t": [("z", "x"), ("q", "q")], "u": []}))
        self.assertEqual(written(m.images()), written({"a": ["z", "x", "q"], "b": ["x", "w"]}))
        self.assertEqual(back_of_map(m).images(), {"a": ["x", "y", "z"], "b": ["w", "x"]})
        names["a"][0] = "o"
        self.assertEqual(m.image("a", "x"), "z")

    def test_same_names(self):
        self.assertEqual(renaming_map(SOURCE, SOURCE.told()[0]), same_map(SOURCE))
        for frame in (BARE, FRAME, Frame([], [], [])):
            self.assertEqual(renaming_map(empty(frame), {sort: [] for sort in frame.sorts()}), same_map(empty(frame)))

    def test_errors(self):
        names = {"a": ["z", "x", "q"], "b": ["x", "w"]}
        bad = ODD_VALUES + [{"a": names["a"]}, {**names, "c": []}, {"a": names["a"], "c": names["b"]}, {**names, "a": ["z", "x"]}, {**names, "b": ["x", "w", "v"]},
                            {**names, "b": {"x": 1, "w": 2}}, {**names, "b": "xw"}, {**names, "b": None}, [("a", names["a"]), ("b", names["b"])], {**names, 0: []}]
        for value in bad:
            self.fails(BadImages, {}, renaming_map, SOURCE, value)
        self.fails(BadImages, {}, renaming_map, SOURCE, {"a": [0, 0, 0], "b": []})
        for value in NOT_WORDS:
            self.fails(BadName, {"name": value}, renaming_map, SOURCE, {"b": [0, 0], "a": ["z", value, "z"]})
            self.fails(BadName, {"name": value}, renaming_map, SOURCE, {"b": ["v", value], "a": ["z", "x", "q"]})
        self.fails(TwiceTold, {"name": "z"}, renaming_map, SOURCE, {"b": [0, 0], "a": ["z", "z", 0]})
        self.fails(TwiceTold, {"name": "z"}, renaming_map, SOURCE, {"b": [0, 0], "a": ["z", "x", "z"]})
        self.fails(BadName, {"name": 0}, renaming_map, SOURCE, {"b": ["v", "v"], "a": ["z", 0, "z"]})
        self.fails(TwiceTold, {"name": "v"}, renaming_map, SOURCE, {"b": ["v", "v"], "a": ["z", "x", "q"]})

    def test_as_it_is_meant(self):
        chance = seeded(331)
        for _ in range(60):
            world = chance_state(chance)[1]
            names = {sort: chance.sample(["k1", "k2", "k3"] + WORDS, len(world.things(sort))) for sort in "ab"}
            m = renaming_map(world, names)
            led = {sort: dict(zip(world.things(sort), names[sort])) for sort in "ab"}
            pairs = {name: [(led[a][x], led[b][y]) for x, y in world.relation(name).pairs()] for name, a, b in FRAME.letters()}
            self.assertEqual(told(m), (world, World(FRAME, names, pairs), names))
            self.assertIsNotNone(back_of_map(m))


class LedDeed(Case):
    def test_examples(self):
        for deed, right in [
                (("put", "r", "y", "w"), ("put", "r", "q", "k")), (("take", "s", "x", "z"), ("take", "s", "x", "q")),
                (("take", "t", "x", "x"), ("take", "t", "p", "p")), (("leave", "a", "z"), ("leave", "a", "q")), (("leave", "b", "w"), ("leave", "b", "k")),
                (("add", "a", "x"), None), (("add", "c", "B"), None), (("name", "v", R), None), (("name", "B", 0), None), (("unname", "w"), None),
                (("let", R, 0), None), (("unlet", T, T), None), (("all", ()), None),
                (("all", (("add", "a", "o"), ("leave", "b", "w"), ("put", "u", "x", "w"), ("let", T, T))),
                 ("all", (("add", "a", "o"), ("leave", "b", "k"), ("put", "u", "x", "k"), ("let", T, T))))]:
            self.assertEqual(written(self.unchanged(led_deed, M, deed)), written(right or deed))

    def test_errors(self):
        for value in BadDeeds().bad():
            self.fails(BadDeed, {}, led_deed, M, value)
            self.fails(BadDeed, {}, led_deed, M, ("all", (("leave", "q", "q"), value)))
        self.fails(BadDeed, {}, led_deed, M, ("all", (("all", ()),)))
        for word in ("put", "take"):
            for name in ("q", "", "a"):
                self.fails(UnknownName, {"name": name}, led_deed, M, (word, name, "q", "q"))
            # The things are those of the source, and not of the target.
            for x in ("p", "w", ""):
                self.fails(UnknownName, {"name": x}, led_deed, M, (word, "r", x, "q"))
            for y in ("k", "y", ""):
                self.fails(UnknownName, {"name": y}, led_deed, M, (word, "r", "x", y))
        for sort in ("c", "r", ""):
            self.fails(UnknownName, {"name": sort}, led_deed, M, ("leave", sort, "q"))
        for x in ("p", "w", ""):
            self.fails(UnknownName, {"name": x}, led_deed, M, ("leave", "a", x))
        self.fails(UnknownName, {"name": "k"}, led_deed, M, ("all", (("leave", "a", "x"), ("put", "r", "x", "k"), ("leave", "c", "q"))))
        # A thing that an earlier deed adds is no thing of the source.
        self.fails(UnknownName, {"name": "o"}, led_deed, M, ("all", (("add", "a", "o"), ("leave", "a", "o"))))


class LedState(Case):
    def test_example(self):
        state = state_of(["t ; t <= t"], {"a": ["x", "y", "z"], "b": ["w", "x"]}, {"r": [("x", "w"), ("y", "x")], "t": [("x", "y")]},
                         {"one": R, "two": ("then", R, S)})
        m = renaming_map(state[1], {"a": ["q", "z", "b"], "b": ["y", "w"]})
        found = self.unchanged(led_state, m, state)
        self.assertEqual(found, state_of(["t ; t <= t"], {"a": ["b", "q", "z"], "b": ["w", "y"]}, {
            "r": [("q", "y"), ("z", "w")], "t": [("q", "z")]}, {"one": R, "two": ("then", R, S)}))
        self.assertEqual(found[1].things("a"), ["b", "q", "z"])
        self.assertEqual(led_state(same_map(state[1]), state), state)

    def test_errors(self):
        state = in_order(state_of([], {"a": [], "b": []}, {})[0], SOURCE, {"v": U})
        self.assertEqual(state[1], SOURCE)
        turned = World(FRAME, {"a": ["z", "y", "x"], "b": ["w", "x"]}, SOURCE.told()[1])
        for world in (TARGET, empty(FRAME), square("x"), turned):
            self.fails(MixedWorlds, {}, led_state, same_map(world), state)
        self.fails(MixedWorlds, {}, led_state, WorldMap(empty(FRAME), SOURCE, {"a": [], "b": []}), state)
        self.fails(MixedWorlds, {}, led_state, WorldMap(TARGET, TARGET, {"a": ["q", "q"], "b": ["x", "k"]}), state)
        self.fails(BadImages, {}, led_state, M, state)
        more = World(FRAME, SOURCE.told()[0], {**SOURCE.told()[1], "u": [("w", "w")]})
        self.fails(BadImages, {}, led_state, WorldMap(SOURCE, more, SOURCE.told()[0]), state)
        some = state_of([], {"a": ["x"], "b": []}, {})
        two = World(FRAME, {"a": ["x", "y"], "b": []}, {"r": [], "s": [], "t": [], "u": []})
        self.fails(BadImages, {}, led_state, WorldMap(some[1], two, {"a": ["x"], "b": []}), some)

    def led(self, chance, state):
        """A map that has an inverse from the world of a state, the led state, and the map from the one world in order to the other."""
        names = {sort: chance.sample(["k1", "k2", "k3", "k4"] + WORDS, len(state[1].things(sort))) for sort in "ab"}
        m = renaming_map(state[1], names)
        return m, led_state(m, state), WorldMap(state[1], led_state(m, state)[1], names)

    def test_deeds_and_views(self):
        chance = seeded(332)
        count = 0
        for _ in range(150):
            state = chance_state(chance)
            m, other, ordered = self.led(chance, state)
            self.assertEqual((other[0], other[2]), (state[0], state[2]))
            for _, term in state[2]:
                a, b = ends_of(FRAME, term)
                self.assertEqual(worth(other[1], term), led_relation(ordered, a, b, worth(state[1], term)))
            deed = chance_deed(chance, state)
            if "'add'" in written(deed):
                continue
            try:
                after = edited(state, deed)
            except (PairError, NameMissing):
                continue
            count += 1
            led_after = edited(other, led_deed(m, deed))
            # The state after the deed, led by the same names.
            names = {sort: [m.image(sort, x) for x in after[1].things(sort)] for sort in "ab"}
            self.assertEqual(led_after, led_state(renaming_map(after[1], names), after))
            self.judge_views(m, differences(state, after), differences(other, led_after), dict(state[2]), dict(after[2]))
        self.assertGreater(count, 40)

    def judge_views(self, m, found, led, before, after):
        self.assertEqual([word for word, _, _ in found], [word for word, _, _ in led])
        for (word, gained, lost), (_, led_gained, led_lost) in zip(found, led):
            if word in before and word in after and ends_of(FRAME, before[word]) != ends_of(FRAME, after[word]):
                continue
            a, b = ends_of(FRAME, after.get(word, before.get(word)))
            for pairs, led_pairs in ((gained, led_gained), (lost, led_lost)):
                self.assertEqual(sorted([(m.image(a, x), m.image(b, y)) for x, y in pairs]), sorted(led_pairs))


class Small(Case):
    def test_square(self):
        m = renaming_map(square("ab", "ab"), {"a": ["b", "a"]})
        self.assertEqual(m.target(), World(SQUARE, {"a": ["b", "a"]}, {"r": [("b", "a")]}))
        self.assertEqual(led_deed(m, ("take", "r", "a", "b")), ("take", "r", "b", "a"))


if __name__ == "__main__":
    unittest.main()
