"""All worlds that obey a book, counted, listed, and up to names (S7.6)."""

import itertools
import unittest

from pairlaws.books import Book, obeys
from pairlaws.counting import all_worlds, alike_worlds, count_worlds, unlike_worlds
from pairlaws.errors import BadWorld, MixedFrames, TooMany
from pairlaws.frames import Frame
from pairlaws.turnings import premises_of
from pairlaws.worlds import World, renamed
from tests.casesupport import TOTAL, chance_book, chance_premises, seeded
from tests.support import ODD_VALUES, Case
from tests.termsupport import FRAME, T, chance_world, chance_worlds

NONE = Frame([], [], [])
BARE = Frame(["a", "b"], [], [])
SQUARE = Frame(["a"], [("r", "a", "a")], [])
TWO = Frame(["b", "a"], [("s", "a", "b"), ("r", "b", "a")], [])
ON = Frame(["a", "b"], [("r", "a", "b")], [("r", "on")])
BACK = Frame(["a", "b"], [("r", "a", "b")], [("r", "back")])
ORDER = [premise for word in ("self", "through", "single") for premise in premises_of(SQUARE, word, "r")]


def possible_worlds(frame, sizes):
    """All worlds in order, read from the document."""
    spots = [(name, f"t{i}", f"t{j}") for name, first, second in frame.letters()
             for i in range(sizes[first]) for j in range(sizes[second])]
    for row in itertools.product((0, 1), repeat=len(spots)):
        pairs = {name: [] for name, _, _ in frame.letters()}
        for (name, x, y), is_in in zip(spots, row):
            if is_in:
                pairs[name].append((x, y))
        yield World(frame, {sort: [f"t{i}" for i in range(sizes[sort])] for sort in frame.sorts()}, pairs)


def chance_sizes(chance, frame, most, many):
    """Some sizes with at most so many things of a sort and so many possible pairs."""
    while True:
        sizes = {sort: chance.randint(0, most) for sort in frame.sorts()}
        if sum([sizes[first] * sizes[second] for _, first, second in frame.letters()]) <= many:
            return sizes


class AllWorlds(Case):
    def test_examples(self):
        found = self.unchanged(all_worlds, Book(SQUARE, ORDER), {"a": 2})
        same = [("t0", "t0"), ("t1", "t1")]
        self.assertEqual([world.told() for world in found], [({"a": ["t0", "t1"]}, {"r": sorted(pairs)}) for pairs in (
            same, same + [("t1", "t0")], same + [("t0", "t1")])])
        self.told_anew(all_worlds, Book(SQUARE, ORDER), {"a": 2})

    def test_order(self):
        for frame, sizes in ((SQUARE, {"a": 2}), (TWO, {"a": 2, "b": 1}), (TWO, {"b": 2, "a": 1}), (TWO, {"a": 3, "b": 1}),
                             (SQUARE, {"a": 0}), (BARE, {"a": 4, "b": 0}), (NONE, {}), (TWO, {"a": 4, "b": 0}),
                             (ON, {"b": 2, "a": 1})):
            book = Book(frame, [])
            right = [world for world in possible_worlds(frame, sizes) if obeys(book, world)]
            self.assertEqual(self.unchanged(all_worlds, book, sizes), right)
            self.assertEqual(self.unchanged(count_worlds, book, sizes), len(right))

    def test_known_numbers(self):
        for size, orders, up_to_names in ((0, 1, 1), (1, 1, 1), (2, 3, 2), (3, 19, 5)):
            book = Book(SQUARE, ORDER)
            self.assertEqual(count_worlds(book, {"a": size}), orders)
            self.assertEqual(len(unlike_worlds(book, {"a": size})), up_to_names)
        for size, count in enumerate((1, 2, 10, 104)):
            self.assertEqual(len(unlike_worlds(Book(SQUARE, []), {"a": size})), count)

    def test_totals(self):
        for some, others in itertools.product(range(4), repeat=2):
            functions = (2 ** others - 1) ** some
            self.assertEqual(count_worlds(Book(ON, []), {"a": some, "b": others}), functions)
            self.assertEqual(count_worlds(Book(BACK, []), {"b": some, "a": others}), functions)
            one = Book(ON, premises_of(ON, "one", "r"))
            self.assertEqual(count_worlds(one, {"a": some, "b": others}), others ** some)
            self.assertEqual(len(all_worlds(one, {"a": some, "b": others})), others ** some)

    def test_as_it_is_meant(self):
        chance = seeded(211)
        for _ in range(60):
            book = chance_book(chance)
            sizes = chance_sizes(chance, book.frame(), 2, 6)
            right = [world for world in possible_worlds(book.frame(), sizes) if obeys(book, world)]
            self.assertEqual(all_worlds(book, sizes), right)
            self.assertEqual(count_worlds(book, sizes), len(right))

    def test_deeper_premises(self):
        chance = seeded(212)
        for _ in range(30):
            book = Book(TOTAL, chance_premises(chance, 1, 5))
            sizes = chance_sizes(chance, TOTAL, 2, 6)
            right = [world for world in possible_worlds(TOTAL, sizes) if obeys(book, world)]
            self.assertEqual(all_worlds(book, sizes), right)

    def test_three_things(self):
        for p in (("closed", T), ("walked", T), ("then", T, ("cut", T, ("turned", T))), ("then", ("rest", T), T)):
            for q in (T, ("joined", ("same", "a"), ("rest", T)), ("other", "a")):
                frame = Frame(["a"], [("t", "a", "a")], [])
                book = Book(frame, [(p, q)])
                right = [world for world in possible_worlds(frame, {"a": 3}) if obeys(book, world)]
                self.assertEqual(all_worlds(book, {"a": 3}), right)


class Errors(Case):
    CALLS = (all_worlds, count_worlds, unlike_worlds)

    def fail(self, told, frame, sizes):
        for call in self.CALLS:
            self.fails(BadWorld, {"name": told}, call, Book(frame, []), sizes)

    def test_not_a_dict(self):
        for value in ODD_VALUES:
            if not isinstance(value, dict):
                self.fail(None, TWO, value)
        self.fail(None, NONE, [])
        self.fail(None, TWO, [("a", 1), ("b", 1)])

    def test_sorts(self):
        for sizes in ({}, {"a": 1}, {"a": 5}, {"x": 1}, {"b": 5, "a": 1}, {"b": -1, "x": 1}, {"a": 9, "b": -2}):
            self.fail("b", TWO, sizes)
        for sizes in ({"b": 4}, {"b": 0, "a": 5}, {"x": 0, "b": 2, "a": -1}):
            self.fail("a", TWO, sizes)
        for value in ODD_VALUES + [5, -1, "1"]:
            if isinstance(value, bool) or value not in (0, 1):
                self.fail("b", TWO, {"a": 1, "b": value})
                self.fail("a", TWO, {"a": value, "b": 1})

    def test_other_keys(self):
        for key in ("x", "A", "r", 0, 1, None, True, (), ("a",), ""):
            self.fail(key, TWO, {"a": 4, "b": 4, key: 1})
            self.fail(key, TWO, {key: 1, "a": 4, "zz": 7, "b": 4})
        self.fail("x", NONE, {"x": 0})
        self.fail("z", BARE, {"z": 0, "a": 1, "c": 0, "b": 1})

    def test_too_many(self):
        twelve = Frame(["a", "b"], [("r", "a", "b"), ("s", "b", "b")], [])
        for call in self.CALLS:
            self.fails(TooMany, {}, call, Book(SQUARE, []), {"a": 4})
            self.fails(TooMany, {}, call, Book(twelve, []), {"a": 3, "b": 3})
            self.fails(TooMany, {}, call, Book(TWO, [(("all", "a", "b"), ("none", "a", "b"))]), {"a": 4, "b": 2})
        # 8 pairs of r and 4 of s are 12, which may be; 9 and 4 would be 13.
        thirteen = Frame(["a", "b", "c"], [("r", "a", "a"), ("s", "b", "c")], [])
        for call in self.CALLS:
            self.fails(TooMany, {}, call, Book(thirteen, []), {"a": 3, "b": 4, "c": 1})
        self.assertEqual(count_worlds(Book(twelve, []), {"a": 4, "b": 2}), 4096)
        self.assertEqual(len(all_worlds(Book(twelve, []), {"a": 4, "b": 2})), 4096)
        self.assertEqual(count_worlds(Book(TWO, []), {"a": 3, "b": 2}), 4096)


class Alike(Case):
    def judge(self, world, other, found):
        """A dict that alike_worlds told shows what it must show."""
        self.assertEqual(list(found), world.frame().sorts())
        led = {sort: dict(zip(world.things(sort), images)) for sort, images in found.items()}
        for sort, images in found.items():
            self.assertIsInstance(images, list)
            self.assertEqual(len(images), len(world.things(sort)))
            self.assertEqual(sorted(images), sorted(other.things(sort)))
        for name, first, second in world.frame().letters():
            pairs = [(led[first][x], led[second][y]) for x, y in world.relation(name).pairs()]
            self.assertEqual(sorted(pairs), sorted(other.relation(name).pairs()))

    def are_alike(self, world, other):
        """Whether some renaming leads the one world to the other one, tried one by one."""
        if any([len(world.things(sort)) != len(other.things(sort)) for sort in world.frame().sorts()]):
            return False
        orders = [list(itertools.permutations(other.things(sort))) for sort in world.frame().sorts()]
        for chosen in itertools.product(*orders):
            led = {sort: dict(zip(world.things(sort), images)) for sort, images in zip(world.frame().sorts(), chosen)}
            if all([sorted([(led[first][x], led[second][y]) for x, y in world.relation(name).pairs()])
                    == sorted(other.relation(name).pairs()) for name, first, second in world.frame().letters()]):
                return True
        return False

    def test_examples(self):
        world = World(SQUARE, {"a": ["x", "y", "z"]}, {"r": [("x", "y"), ("y", "z")]})
        other = World(SQUARE, {"a": ["u", "v", "w"]}, {"r": [("u", "w"), ("v", "u")]})
        self.assertEqual(self.unchanged(alike_worlds, world, other), {"a": ["v", "u", "w"]})
        for pairs in ([], [("u", "w"), ("w", "u")], [("u", "w"), ("v", "w")], [("u", "v"), ("v", "w"), ("u", "w")],
                      [("u", "v"), ("v", "v")]):
            self.assertIs(self.unchanged(alike_worlds, world, World(SQUARE, {"a": ["u", "v", "w"]}, {"r": pairs})), None)
        self.assertIs(alike_worlds(world, World(SQUARE, {"a": ["x", "y", "z", "u"]}, {"r": [("x", "y"), ("y", "z")]})), None)
        self.assertIs(alike_worlds(World(SQUARE, {"a": ["x", "y", "z", "u"]}, {"r": [("x", "y"), ("y", "z")]}), world), None)
        self.told_anew(alike_worlds, world, other)

    def test_worlds_without_things(self):
        for frame in (NONE, BARE, SQUARE, FRAME):
            world = World(frame, {sort: [] for sort in frame.sorts()}, {name: [] for name, _, _ in frame.letters()})
            self.assertEqual(alike_worlds(world, world), {sort: [] for sort in frame.sorts()})
        some = World(BARE, {"a": ["x"], "b": []}, {})
        others = World(BARE, {"a": [], "b": ["x"]}, {})
        self.assertIs(alike_worlds(some, others), None)
        self.assertEqual(alike_worlds(some, World(BARE, {"a": ["y"], "b": []}, {})), {"a": ["y"], "b": []})

    def test_as_it_is_meant(self):
        chance = seeded(213)
        worlds = list(chance_worlds(60, 214))
        for world in worlds:
            other = world
            for sort in FRAME.sorts():
                names = chance.sample(["q1", "q2", "q3", "q4"], len(world.things(sort)))
                other = renamed(other, sort, names)
            things, pairs = other.told()
            shuffled = World(FRAME, {sort: chance.sample(things[sort], len(things[sort])) for sort in things}, pairs)
            self.judge(world, shuffled, alike_worlds(world, shuffled))
        for world, other in zip(worlds, worlds[1:]):
            self.assertIs(alike_worlds(world, other) is not None, self.are_alike(world, other))

    def test_small_worlds(self):
        worlds = list(possible_worlds(SQUARE, {"a": 2})) + list(possible_worlds(SQUARE, {"a": 3}))[::37]
        for world, other in itertools.product(worlds, repeat=2):
            found = alike_worlds(world, other)
            self.assertIs(found is not None, self.are_alike(world, other))
            if found is not None:
                self.judge(world, other, found)

    def test_four_things_of_three_sorts(self):
        names = [f"l{number}" for number in range(8)]
        sorts = ["a", "b", "c"]
        frame = Frame(sorts, [(name, sorts[at % 3], sorts[at // 3]) for at, name in enumerate(names)], [])
        things = {sort: ["x0", "x1", "x2", "x3"] for sort in sorts}
        full = [(x, y) for x in things["a"] for y in things["a"]]
        # Each row and each column has one pair; in the one world they make a ring, in the other one they do not.
        ring = [("x0", "x1"), ("x1", "x2"), ("x2", "x3"), ("x3", "x0")]
        apart = [("x0", "x1"), ("x1", "x0"), ("x2", "x3"), ("x3", "x2")]
        for pairs in (full, []):
            one = World(frame, things, {**{name: pairs for name in names}, "l7": ring, "l4": ring})
            other = World(frame, things, {**{name: pairs for name in names}, "l7": ring, "l4": apart})
            self.assertIs(alike_worlds(one, other), None)
            self.judge(one, one, alike_worlds(one, one))

    def test_errors(self):
        world = World(BARE, {"a": [], "b": []}, {})
        for frame in (NONE, SQUARE, Frame(["b", "a"], [], []), TOTAL, ON):
            other = chance_world(seeded(1), frame) if frame is NONE else World(
                frame, {sort: [] for sort in frame.sorts()}, {name: [] for name, _, _ in frame.letters()})
            self.fails(MixedFrames, {}, alike_worlds, world, other)


class Unlike(Case):
    def test_examples(self):
        found = self.unchanged(unlike_worlds, Book(SQUARE, ORDER), {"a": 2})
        self.assertEqual(found, all_worlds(Book(SQUARE, ORDER), {"a": 2})[:2])
        self.assertEqual(unlike_worlds(Book(NONE, []), {}), [World(NONE, {}, {})])
        self.assertEqual(unlike_worlds(Book(BARE, []), {"a": 4, "b": 4}), all_worlds(Book(BARE, []), {"a": 4, "b": 4}))
        self.assertEqual(unlike_worlds(Book(SQUARE, [(("all", "a", "a"), ("none", "a", "a"))]), {"a": 1}), [])
        self.told_anew(unlike_worlds, Book(SQUARE, ORDER), {"a": 2})

    def test_as_it_is_meant(self):
        chance = seeded(215)
        for _ in range(40):
            book = chance.choice((chance_book(chance), Book(chance.choice((TWO, ON, BACK, SQUARE)), [])))
            sizes = chance_sizes(chance, book.frame(), 3, 6)
            right = []
            for world in all_worlds(book, sizes):
                if not any([alike_worlds(world, other) for other in right]):
                    right.append(world)
            self.assertEqual(unlike_worlds(book, sizes), right)

    def test_things_without_pairs(self):
        # Only the two things of b can be told apart by their pairs; those of a and c cannot.
        frame = Frame(["a", "b", "c"], [("r", "a", "b"), ("s", "b", "b")], [])
        self.assertEqual(len(unlike_worlds(Book(frame, []), {"a": 0, "b": 2, "c": 4})), 10)
        self.assertEqual(len(unlike_worlds(Book(frame, []), {"a": 4, "b": 0, "c": 4})), 1)
        self.assertEqual(len(unlike_worlds(Book(frame, []), {"a": 4, "b": 1, "c": 0})), 10)


if __name__ == "__main__":
    unittest.main()
