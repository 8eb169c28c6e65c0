"""Maps from worlds to worlds, composed, compared and listed (S10.1, S10.4)."""

import itertools
import unittest

from pairlaws.errors import BadImages, MixedFrames, MixedWorlds, NotLed, TooMany, UnknownName
from pairlaws.frames import Frame
from pairlaws.images import back_of_map
from pairlaws.maps import WorldMap, all_maps, first_exact, first_map, same_map
from pairlaws.worlds import World
from tests.casesupport import seeded
from tests.mapsupport import BARE, SQUARE, chance_maps, empty, images_by_trial, renamed_map, square
from tests.support import ODD_VALUES, Case, written
from tests.termsupport import FRAME, chance_world, chance_worlds

SOURCE = World(FRAME, {"a": ["x", "y", "z"], "b": ["w", "x"]}, {
    "r": [("x", "w"), ("y", "x")], "s": [("w", "z")], "t": [("x", "y"), ("z", "z")], "u": []})
TARGET = World(FRAME, {"a": ["p", "q"], "b": ["x", "k"]}, {
    "r": [("p", "k"), ("q", "k"), ("q", "x")], "s": [("k", "q")], "t": [("p", "q"), ("q", "q")], "u": [("k", "k")]})
IMAGES = {"a": ["p", "q", "q"], "b": ["k", "x"]}


def told(m):
    """All that a map tells."""
    return (m.source(), m.target(), m.images())


class Made(Case):
    def test_example(self):
        m = self.unchanged(WorldMap, SOURCE, TARGET, IMAGES)
        self.assertEqual(told(m), (SOURCE, TARGET, IMAGES))
        self.assertEqual([m.image("a", x) for x in "xyz"], ["p", "q", "q"])
        self.assertEqual([m.image("b", x) for x in "wx"], ["k", "x"])
        self.assertEqual(list(m.images()), ["a", "b"])
        self.told_anew(m.images)
        # The keys in any order; tuples for lists; the dict is not kept.
        images = {"b": ("k", "x"), "a": ["p", "q", "q"]}
        other = WorldMap(SOURCE, TARGET, images)
        images["a"][0] = "q"
        del images["b"]
        self.assertEqual(other, m)
        self.assertEqual(written(other.images()), written(IMAGES))

    def test_worlds_without_things(self):
        for frame in (Frame([], [], []), BARE, SQUARE, FRAME):
            nothing = {sort: [] for sort in frame.sorts()}
            m = WorldMap(empty(frame), empty(frame), nothing)
            self.assertEqual(told(m), (empty(frame), empty(frame), nothing))
        self.assertEqual(WorldMap(empty(FRAME), TARGET, {"a": [], "b": []}).target(), TARGET)
        self.fails(UnknownName, {"name": "x"}, WorldMap, SOURCE, empty(FRAME), {"a": ["x", "y", "z"], "b": ["w", "x"]})

    def test_images_of_things(self):
        m = WorldMap(SOURCE, TARGET, IMAGES)
        for value in ODD_VALUES + ["c", "r", "x"]:
            if value not in ("a", "b"):
                self.fails(UnknownName, {"name": value}, m.image, value, "q")
        for value in ODD_VALUES + ["w", "p"]:
            self.fails(UnknownName, {"name": value}, m.image, "a", value)
        self.fails(UnknownName, {"name": "y"}, m.image, "b", "y")

    def test_errors(self):
        other = World(Frame(["a"], [], []), {"a": []}, {})
        for images in (None, IMAGES, {}):
            self.fails(MixedFrames, {}, WorldMap, SOURCE, other, images)
            self.fails(MixedFrames, {}, WorldMap, other, TARGET, images)
        bad = ODD_VALUES + [{"a": ["p", "q", "q"]}, {"b": ["k", "x"]}, {**IMAGES, "c": []}, {**IMAGES, 1: []}, {"a": IMAGES["a"], "c": IMAGES["b"]},
                            {"a": IMAGES["a"], None: IMAGES["b"]}, [("a", IMAGES["a"]), ("b", IMAGES["b"])], ["a", "b"], "ab"]
        for sort in ("a", "b"):
            count = len(IMAGES[sort])
            bad += [{**IMAGES, sort: value} for value in ODD_VALUES if not (isinstance(value, (list, tuple)) and len(value) == count)]
            bad += [{**IMAGES, sort: IMAGES[sort] + ["k"]}, {**IMAGES, sort: IMAGES[sort][1:]}, {**IMAGES, sort: {x: 1 for x in range(count)}},
                    {**IMAGES, sort: "pqr"[:count]}]
        for value in bad:
            self.fails(BadImages, {}, WorldMap, SOURCE, TARGET, value)
        self.fails(BadImages, {}, WorldMap, SOURCE, TARGET, {"a": [0, 0, 0], "b": ["k"]})

    def test_no_things(self):
        for value in ODD_VALUES + ["k", "z"]:
            self.fails(UnknownName, {"name": value}, WorldMap, SOURCE, TARGET, {"b": [0, 0], "a": ["p", value, 0]})
            if value != "k":
                self.fails(UnknownName, {"name": value}, WorldMap, SOURCE, TARGET, {"b": [value, 0], "a": ["q", "q", "p"]})

    def test_not_led(self):
        self.fails(NotLed, {"name": "r", "pair": ("x", "w")}, WorldMap, SOURCE, TARGET, {"a": ["p", "p", "p"], "b": ["x", "x"]})
        self.fails(NotLed, {"name": "r", "pair": ("y", "x")}, WorldMap, SOURCE, TARGET, {"a": ["p", "p", "p"], "b": ["k", "x"]})
        self.fails(NotLed, {"name": "s", "pair": ("w", "z")}, WorldMap, SOURCE, TARGET, {"a": ["p", "p", "p"], "b": ["k", "k"]})
        self.fails(NotLed, {"name": "t", "pair": ("x", "y")}, WorldMap, SOURCE, TARGET, {"a": ["q", "p", "q"], "b": ["k", "k"]})
        self.fails(NotLed, {"name": "r", "pair": ("b", "c")}, WorldMap, square("abc", "ab", "bc"), square("pq", "pq"), {"a": ["p", "q", "q"]})
        self.fails(NotLed, {"name": "r", "pair": ("b", "c")}, WorldMap, square("cba", "bc", "ab"), square("pq", "pp"), {"a": ["q", "p", "p"]})

    def test_as_it_is_meant(self):
        chance = seeded(311)
        kinds = set()
        for _ in range(300):
            source, target = chance_world(chance, FRAME), chance_world(chance, FRAME)
            if any([source.things(sort) and not target.things(sort) for sort in "ab"]):
                continue
            images = {sort: [chance.choice(target.things(sort)) for _ in source.things(sort)] for sort in "ab"}
            led = {sort: dict(zip(source.things(sort), images[sort])) for sort in "ab"}
            wrong = [(name, pair) for name, a, b in FRAME.letters() for pair in source.relation(name).pairs()
                     if (led[a][pair[0]], led[b][pair[1]]) not in target.relation(name)]
            kinds.add(not wrong)
            if wrong:
                self.fails(NotLed, {"name": wrong[0][0], "pair": wrong[0][1]}, WorldMap, source, target, images)
            else:
                self.assertEqual(told(WorldMap(source, target, images)), (source, target, images))
        self.assertEqual(len(kinds), 2)


class Operators(Case):
    def test_composed(self):
        m = WorldMap(SOURCE, TARGET, IMAGES)
        last = World(FRAME, {"a": ["o"], "b": ["x", "o"]}, {"r": [("o", "o")], "s": [("o", "o")], "t": [("o", "o")], "u": [("o", "o")]})
        n = WorldMap(TARGET, last, {"a": ["o", "o"], "b": ["o", "o"]})
        before = told(m), told(n)
        made = m >> n
        self.assertEqual(told(made), (SOURCE, last, {"a": ["o", "o", "o"], "b": ["o", "o"]}))
        self.assertEqual((told(m), told(n)), before)
        self.assertEqual((same_map(SOURCE) >> m, m >> same_map(TARGET)), (m, m))

    def test_errors(self):
        m = WorldMap(SOURCE, TARGET, IMAGES)
        for n in (m, same_map(SOURCE), same_map(empty(FRAME)), same_map(square("x"))):
            with self.assertRaises(MixedWorlds):
                m >> n
        for value in [value for value in ODD_VALUES if not isinstance(value, WorldMap)]:
            self.assertIs(m.__rshift__(value), NotImplemented)
            with self.assertRaises(TypeError):
                m >> value
            with self.assertRaises(TypeError):
                value >> m

    def test_equal(self):
        def maps():
            return [WorldMap(square("ab"), square("ab"), {"a": ["a", "b"]}), WorldMap(square("ab"), square("ab"), {"a": ["b", "a"]}),
                    WorldMap(square("ba"), square("ab"), {"a": ["a", "b"]}), WorldMap(square("ab"), square("ab", "aa"), {"a": ["a", "b"]}),
                    WorldMap(square("ab"), square("ba"), {"a": ["a", "b"]}), WorldMap(square("ab", "ab"), square("ab", "ab"), {"a": ["a", "b"]}),
                    same_map(square("")), same_map(empty(BARE)), same_map(square("abc"))]
        for (at, m), (other_at, n) in itertools.product(enumerate(maps()), enumerate(maps())):
            self.assertIs(m == n, at == other_at)
            self.assertIs(m != n, at != other_at)
        for value in ODD_VALUES + [square("ab"), {"a": ["a", "b"]}]:
            self.assertIs(maps()[0] == value, False)
            self.assertIs(value == maps()[0], False)

    def test_chance_maps(self):
        chance = seeded(312)
        for m in chance_maps(chance, 40):
            for n in all_maps(m.target(), chance_world(chance, FRAME))[:5]:
                made = m >> n
                right = {sort: [n.image(sort, m.image(sort, x)) for x in m.source().things(sort)] for sort in "ab"}
                self.assertEqual(told(made), (m.source(), n.target(), right))

    def test_same_map(self):
        self.assertEqual(told(self.unchanged(same_map, SOURCE)), (SOURCE, SOURCE, {"a": ["x", "y", "z"], "b": ["w", "x"]}))
        self.assertEqual(same_map(empty(BARE)).images(), {"b": [], "a": []})


class AllMaps(Case):
    def test_examples(self):
        self.assertEqual([m.images()["a"] for m in self.unchanged(all_maps, square("ab"), square("qp"))], [
            ["q", "q"], ["q", "p"], ["p", "q"], ["p", "p"]])
        self.assertEqual([m.images()["a"] for m in all_maps(square("ab", "ab"), square("qp", "pq", "qq"))], [["q", "q"], ["p", "q"]])
        self.assertEqual(all_maps(square("ab", "ab", "ba"), square("qp", "pq")), [])
        self.assertEqual([told(m) for m in all_maps(empty(FRAME), TARGET)], [(empty(FRAME), TARGET, {"a": [], "b": []})])
        self.assertEqual(all_maps(square("a"), empty(SQUARE)), [])
        self.assertEqual(all_maps(empty(SQUARE), empty(SQUARE)), [same_map(empty(SQUARE))])
        self.told_anew(all_maps, square("ab"), square("qp"))
        some, others = World(BARE, {"b": ["x"], "a": ["x", "y"]}, {}), World(BARE, {"b": ["k", "j"], "a": ["v", "u"]}, {})
        self.assertEqual([m.images() for m in all_maps(some, others)], [
            {"b": [one], "a": [two, three]} for one in "kj" for two in "vu" for three in "vu"])

    def test_as_it_is_meant(self):
        worlds = list(chance_worlds(40, 313))
        count = 0
        for source, target in itertools.product(worlds[:20], worlds[20:]):
            right = images_by_trial(source, target)
            found = all_maps(source, target)
            self.assertEqual([told(m) for m in found], [(source, target, images) for images in right])
            first = self.unchanged(first_map, source, target)
            self.assertEqual(first, found[0] if found else None)
            exact = [m for m in found if back_of_map(m) is not None]
            self.assertEqual(first_exact(source, target), exact[0] if exact else None)
            count += len(found)
        self.assertGreater(count, 300)

    def test_exact_ones(self):
        chance = seeded(314)
        for world in chance_worlds(40, 315):
            names = {sort: chance.sample(["q1", "q2", "q3"], len(world.things(sort))) for sort in "ab"}
            m = renamed_map(world, names)
            right = [n for n in all_maps(m.source(), m.target()) if back_of_map(n) is not None]
            self.assertIn(m, right)
            self.assertEqual(self.unchanged(first_exact, m.source(), m.target()), right[0])

    def test_1000_maps(self):
        names = "abcdefghij"
        self.assertEqual(len(all_maps(square("xyz"), square(names))), 1000)
        self.assertEqual([m.images()["a"] for m in all_maps(square("xyz"), square(names))][-2:], [["j", "j", "i"], ["j", "j", "j"]])
        # One more pair of images that may be: 1001 maps.
        frame = Frame(["a", "b"], [("r", "a", "b")], [])
        source = World(frame, {"a": ["x"], "b": ["y"]}, {"r": [("x", "y")]})

        def target(count):
            things = {"a": [f"a{at}" for at in range(40)], "b": [f"b{at}" for at in range(40)]}
            pairs = [(x, y) for x in things["a"] for y in things["b"]][:count]
            return World(frame, things, {"r": pairs})
        self.assertEqual(len(all_maps(source, target(1000))), 1000)
        self.fails(TooMany, {}, all_maps, source, target(1001))
        self.fails(TooMany, {}, all_maps, square("xyzw"), square(names))
        self.fails(TooMany, {}, all_maps, square("abcdef"), square("abcdef", "aa"))

    def test_many_maps(self):
        sorts = ["a", "b", "c"]
        frame = Frame(sorts, [(f"l{at}{to}", sorts[at], sorts[to]) for at in range(3) for to in range(3) if at + to < 4], [])
        things = {sort: [f"{sort}{at}" for at in range(6)] for sort in sorts}
        names = [name for name, _, _ in frame.letters()]
        free = World(frame, things, {name: [] for name in names})
        full = World(frame, things, {name: [(x, y) for x in things[a] for y in things[b]] for name, a, b in frame.letters()})
        self.assertEqual(first_map(full, full).images(), {sort: [f"{sort}0"] * 6 for sort in sorts})
        self.assertEqual(first_map(free, full).images(), {sort: [f"{sort}0"] * 6 for sort in sorts})
        self.assertIs(first_map(full, free), None)
        self.assertIs(first_exact(free, full), None)
        self.assertEqual(first_exact(full, full), same_map(full))
        self.fails(TooMany, {}, all_maps, free, full)

    def test_none_among_many(self):
        # Six things of c are all different by a letter, and the target has no six such things; a and b are free.
        frame = Frame(["a", "b", "c"], [("t", "c", "c"), ("u", "a", "c"), ("v", "b", "c")], [])
        things = {sort: [f"{sort}{at}" for at in range(6)] for sort in "abc"}
        unlike = [(x, y) for x in things["c"] for y in things["c"] if x != y]
        less = [pair for pair in unlike if set(pair) != {"c4", "c5"}]
        chance = seeded(316)
        u = [(x, y) for x in things["a"] for y in things["c"] if chance.random() < 0.5]
        full = [(x, y) for x in things["b"] for y in things["c"]]
        source = World(frame, things, {"t": unlike, "u": list(zip(things["a"], things["c"])), "v": []})
        target = World(frame, things, {"t": less, "u": u, "v": full})
        self.assertIs(first_map(source, target), None)
        self.assertEqual(all_maps(source, target), [])
        target = World(frame, things, {"t": unlike, "u": [(x, y) for x in things["a"] for y in things["c"]], "v": full})
        self.assertEqual(first_map(source, target).images(), {"a": ["a0"] * 6, "b": ["b0"] * 6, "c": things["c"]})
        self.fails(TooMany, {}, all_maps, source, target)

    def test_rings(self):
        names = ["x0", "x1", "x2", "x3", "x4", "x5"]
        ring = World(SQUARE, {"a": names}, {"r": [(names[at], names[(at + 1) % 6]) for at in range(6)]})
        apart = World(SQUARE, {"a": names}, {"r": [(names[at], names[at // 3 * 3 + (at + 1) % 3]) for at in range(6)]})
        self.assertEqual([m.images()["a"][0] for m in all_maps(ring, ring)], names)
        self.assertEqual(len(all_maps(ring, apart)), 6)
        self.assertEqual(all_maps(apart, ring), [])
        self.assertIs(first_exact(ring, apart), None)
        self.assertEqual(first_exact(ring, ring), same_map(ring))
        turned = World(SQUARE, {"a": names}, {"r": [(names[(at + 1) % 6], names[at]) for at in range(6)]})
        self.assertEqual(first_exact(ring, turned).images()["a"], ["x0", "x5", "x4", "x3", "x2", "x1"])

    def test_errors(self):
        for frame in (SQUARE, BARE, Frame([], [], []), Frame(["a", "b"], [], [])):
            for call in (all_maps, first_map, first_exact):
                self.fails(MixedFrames, {}, call, SOURCE, empty(frame))
                self.fails(MixedFrames, {}, call, empty(frame), SOURCE)


if __name__ == "__main__":
    unittest.main()
