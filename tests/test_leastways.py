"""Plain ways and leads of plain ways into one another (S5.5, S5.6)."""

import itertools
import random
import unittest

from pairlaws.books import Book
from pairlaws.deciding import holds
from pairlaws.errors import BadTerm, MixedEnds, NotPlain
from pairlaws.leastways import (alike_ways, is_lead_into, lead_into, least_way, plain_leads, plain_ways, way_world)
from pairlaws.worths import worth
from tests.support import ODD_VALUES, Case
from tests.termsupport import FRAME, PLAIN, R, S, T, chance_term, chance_terms, chance_worlds

SAME, ALL = ("same", "a"), ("all", "a", "b")
ONE = (("a",), (), 0, 0)


def cycle(count, last=0):
    """The plain way of a ring of so many places of sort a, in the letter t."""
    return (("a",) * count, tuple(("t", at, (at + 1) % count) for at in range(count)), 0, last)


def all_leads(way, other):
    """All leads, straight from the definition."""
    found = []
    for lead in itertools.product(range(len(other[0])), repeat=len(way[0])):
        if all(way[0][at] == other[0][lead[at]] for at in range(len(lead))) and lead[way[2]] == other[2]:
            if lead[way[3]] == other[3] and all((r, lead[i], lead[j]) in other[1] for r, i, j in way[1]):
                found.append(lead)
    return found


def some_ways(count, seed, most):
    chance = random.Random(seed)
    found = []
    while len(found) < count:
        ends = ("a", "a") if chance.random() < 0.7 else ("a", "b")
        term = chance_term(chance, ends, 5, (*PLAIN, "none", "all"))
        found.extend([way for way in plain_ways(FRAME, term)[:2] if len(way[0]) <= most])
    return found[:count]


def doubled(way, place):
    """The plain way with one more place, which has copies of all marks of a place."""
    sorts, marks, first, last = way
    more = [(r, *[len(sorts) if at == place else at for at in (i, j)]) for r, i, j in marks if place in (i, j)]
    return (sorts + (sorts[place],), marks + tuple(more), first, last)


class PlainWays(Case):
    def test_leaves(self):
        for term, way in ((R, (("a", "b"), (("r", 0, 1),), 0, 1)), (SAME, ONE), (ALL, (("a", "b"), (), 0, 1)),
                          (("all", "a", "a"), (("a", "a"), (), 0, 1)), (T, (("a", "a"), (("t", 0, 1),), 0, 1))):
            self.assertEqual(self.unchanged(plain_ways, FRAME, term), [way])
        self.assertEqual(plain_ways(FRAME, ("none", "a", "b")), [])

    def test_turned(self):
        self.assertEqual(plain_ways(FRAME, ("turned", R)), [(("b", "a"), (("r", 1, 0),), 0, 1)])
        self.assertEqual(plain_ways(FRAME, ("turned", ALL)), [(("b", "a"), (), 0, 1)])
        self.assertEqual(plain_ways(FRAME, ("turned", SAME)), [ONE])
        self.assertEqual(plain_ways(FRAME, ("turned", ("then", R, S))), [(("a", "a", "b"), (("r", 1, 2), ("s", 2, 0)), 0, 1)])

    def test_then(self):
        self.assertEqual(plain_ways(FRAME, ("then", R, S)), [(("a", "a", "b"), (("r", 0, 2), ("s", 2, 1)), 0, 1)])
        self.assertEqual(plain_ways(FRAME, ("then", SAME, R)), [(("a", "b"), (("r", 0, 1),), 0, 1)])
        self.assertEqual(plain_ways(FRAME, ("then", T, SAME)), [(("a", "a"), (("t", 0, 1),), 0, 1)])
        self.assertEqual(plain_ways(FRAME, ("then", SAME, SAME)), [ONE])
        self.assertEqual(plain_ways(FRAME, ("then", ("then", T, T), ("then", T, R))), [
            (("a", "b", "a", "a", "a"), (("t", 0, 3), ("t", 3, 2), ("t", 2, 4), ("r", 4, 1)), 0, 1)])

    def test_cut(self):
        self.assertEqual(plain_ways(FRAME, ("cut", T, SAME)), [(("a",), (("t", 0, 0),), 0, 0)])
        self.assertEqual(plain_ways(FRAME, ("cut", SAME, T)), [(("a",), (("t", 0, 0),), 0, 0)])
        self.assertEqual(plain_ways(FRAME, ("cut", R, R)), [(("a", "b"), (("r", 0, 1),), 0, 1)])
        self.assertEqual(plain_ways(FRAME, ("cut", T, ("turned", T))), [(("a", "a"), (("t", 0, 1), ("t", 1, 0)), 0, 1)])
        self.assertEqual(plain_ways(FRAME, ("cut", ("then", R, S), SAME)), [(("a", "b"), (("r", 0, 1), ("s", 1, 0)), 0, 0)])
        self.assertEqual(plain_ways(FRAME, ("cut", SAME, ("then", R, S))), [(("a", "b"), (("r", 0, 1), ("s", 1, 0)), 0, 0)])
        self.assertEqual(plain_ways(FRAME, ("cut", ("then", T, T), ("then", R, S))), [
            (("a", "a", "a", "b"), (("t", 0, 2), ("t", 2, 1), ("r", 0, 3), ("s", 3, 1)), 0, 1)])

    def test_places_that_become_one_through_others(self):
        # Both ends of t are one place by the same; so first and last are one, and the loop goes on to the r.
        term = ("then", ("cut", SAME, T), R)
        self.assertEqual(plain_ways(FRAME, term), [(("a", "b"), (("t", 0, 0), ("r", 0, 1)), 0, 1)])
        self.assertEqual(plain_ways(FRAME, ("cut", ("cut", T, SAME), ("then", T, T))), [
            (("a", "a"), (("t", 0, 0), ("t", 0, 1), ("t", 1, 0)), 0, 0)])
        self.assertEqual(plain_ways(FRAME, ("then", ("then", R, S), ("cut", SAME, ("then", T, T)))), [
            (("a", "a", "b", "a"), (("r", 0, 2), ("s", 2, 1), ("t", 1, 3), ("t", 3, 1)), 0, 1)])

    def test_marks_that_occur_twice(self):
        self.assertEqual(plain_ways(FRAME, ("cut", ("cut", T, ("turned", T)), SAME)), [(("a",), (("t", 0, 0),), 0, 0)])
        self.assertEqual(plain_ways(FRAME, ("cut", ("cut", R, ALL), ("cut", R, R))), [(("a", "b"), (("r", 0, 1),), 0, 1)])

    def test_order(self):
        one, other = ("joined", T, ("then", R, S)), ("joined", SAME, ("cut", T, ("turned", T)))
        self.assertEqual(plain_ways(FRAME, one), plain_ways(FRAME, T) + plain_ways(FRAME, one[2]))
        self.assertEqual([[mark[0] for mark in way[1]] for way in plain_ways(FRAME, ("then", one, other))],
                         [["t"], ["t", "t", "t"], ["r", "s"], ["r", "s", "t", "t"]])
        self.assertEqual([way[0] for way in plain_ways(FRAME, ("cut", one, other))],
                         [("a",), ("a", "a"), ("a", "b"), ("a", "a", "b")])
        self.assertEqual(plain_ways(FRAME, ("then", one, ("none", "a", "a"))), [])

    def test_errors(self):
        for value in ODD_VALUES + [("letter", "q")]:
            self.fails(BadTerm, {"path": (0,)}, plain_ways, FRAME, ("rest", value))
            self.fails(BadTerm, {"path": ()}, plain_ways, FRAME, value)
        for term in (("rest", T), ("other", "a"), ("closed", T), ("then", T, ("walked", T)), ("turned", ("cut", T, ("rest", T)))):
            self.fails(NotPlain, {}, plain_ways, FRAME, term)

    def test_what_it_holds(self):
        # A pair is in the worth exactly if some plain way has a lead into the world, as the worth of its marks tells.
        self.told_anew(plain_ways, FRAME, ("joined", T, ("then", R, S)))
        worlds = list(chance_worlds(20, 81))
        for number, (ends, term) in enumerate(chance_terms(200, 4, 82, PLAIN)):
            world, found = worlds[number % 20], set()
            for sorts, marks, first, last in plain_ways(FRAME, term):
                self.assertEqual((first, last, len(set(marks))), (0, min(last, 1), len(marks)))
                self.assertEqual((sorts[first], sorts[last]), ends)
                if len(sorts) < 6:
                    for things in itertools.product(*[world.things(sort) for sort in sorts]):
                        if all(world.has(r, things[i], things[j]) for r, i, j in marks):
                            found.add((things[first], things[last]))
            if all(len(way[0]) < 6 for way in plain_ways(FRAME, term)):
                self.assertEqual(found, set(worth(world, term).pairs()))

    def test_way_world(self):
        way = (("b", "a", "a", "b"), (("r", 2, 0), ("t", 1, 2), ("t", 1, 1), ("r", 1, 3)), 0, 1)
        world = self.unchanged(way_world, FRAME, way)
        self.assertEqual(world.told(), ({"a": ["p1", "p2"], "b": ["p0", "p3"]}, {
            "r": [("p1", "p3"), ("p2", "p0")], "s": [], "t": [("p1", "p1"), ("p1", "p2")], "u": []}))
        self.assertEqual(way_world(FRAME, ONE).told()[0], {"a": ["p0"], "b": []})
        for ends, term in chance_terms(80, 4, 83, PLAIN):
            for way in plain_ways(FRAME, term)[:3]:
                self.assertIn((f"p{way[2]}", f"p{way[3]}"), worth(way_world(FRAME, way), term))


class Leads(Case):
    def test_examples(self):
        self.assertEqual(lead_into(cycle(4), cycle(2)), (0, 1, 0, 1))
        self.assertIs(lead_into(cycle(3), cycle(2)), None)
        self.assertIs(lead_into(cycle(2), cycle(4)), None)
        self.assertEqual(lead_into(cycle(3), cycle(1)), (0, 0, 0))
        self.assertIs(lead_into(cycle(4, 1), cycle(2)), None)
        self.assertIs(lead_into(cycle(2), cycle(2, 1)), None)
        self.assertEqual(lead_into(cycle(4, 1), cycle(2, 1)), (0, 1, 0, 1))
        self.assertIs(lead_into((("b",), (), 0, 0), ONE), None)
        self.assertIs(lead_into((("a", "b"), (), 0, 0), ONE), None)
        self.assertEqual(lead_into(ONE, (("a", "b"), (), 0, 0)), (0,))

    def test_judged(self):
        self.judged(is_lead_into, (cycle(4), cycle(2)), [(0, 1, 0, 1)])
        for value in ([0, 1, 0, 1], (0, 1, 0), (0, True, 0, 1), (False, 1, 0, 1), (0, 1, 0, -1), (0, 1, 0, 3), (0, 1, 0, 1, 0),
                      (0, 1, 0, "1"), (1, 0, 1, 0), (0, 0, 0, 0), (0, 1, 0, None), (0, [1], 0, 1)):
            self.assertIs(is_lead_into(cycle(4), cycle(2), value), False)
        self.assertIs(is_lead_into(cycle(4, 1), cycle(2), (0, 1, 0, 1)), False)
        self.assertIs(is_lead_into(ONE, ONE, (0,)), True)
        self.assertIs(is_lead_into(ONE, ONE, (False,)), False)

    def test_as_it_is_meant(self):
        found = some_ways(40, 84, 4)
        for way, other in itertools.product(found, found[:20]):
            right = all_leads(way, other)
            lead = self.unchanged(lead_into, way, other)
            self.assertTrue(lead in right if right else lead is None)
            for value in itertools.product(range(len(other[0])), repeat=len(way[0])):
                self.assertIs(is_lead_into(way, other, value), value in right)

    def test_least_way(self):
        way = (("a", "a", "a", "b"), (("t", 0, 1), ("t", 0, 2), ("r", 2, 3), ("t", 2, 2)), 0, 1)
        self.assertEqual(self.unchanged(least_way, way), ((0, 1, 2, 3), way))
        way = (("a", "b", "a", "a", "b"), (("t", 0, 2), ("t", 0, 3), ("r", 3, 1), ("r", 2, 4)), 0, 1)
        self.assertEqual(least_way(way), ((0, 1, 3, 3, 1), (("a", "b", "a"), (("t", 0, 2), ("r", 2, 1)), 0, 1)))
        self.assertEqual(least_way(cycle(6))[1], cycle(6))
        self.assertEqual(least_way(ONE), ((0,), ONE))
        self.assertEqual(least_way((("a", "a"), (), 0, 0)), ((0, 0), ONE))
        self.assertEqual(least_way((("a", "a"), (("t", 0, 0), ("t", 0, 1)), 0, 0)), ((0, 0), (("a",), (("t", 0, 0),), 0, 0)))
        # All marks between the places are kept, not only those to which marks are led.
        way = (("a", "a"), (("t", 1, 1), ("r", 0, 0)), 0, 0)
        self.assertEqual(least_way(way), ((0, 1), way))

    def test_least_ways(self):
        for way in some_ways(60, 85, 5):
            lead, least = least_way(way)
            leads = all_leads(way, way)
            self.assertIn(lead, leads)
            places = sorted(set(lead))
            self.assertEqual(len(places), min(len(set(one)) for one in leads))
            self.assertEqual(least, (tuple(way[0][at] for at in places), tuple(
                (r, places.index(i), places.index(j)) for r, i, j in way[1] if i in places and j in places), 0, way[3]))
            self.assertIsNotNone(lead_into(least, way))
            self.assertIsNotNone(lead_into(way, least))

    def test_alike_ways(self):
        way = (("a", "a", "a"), (("t", 0, 1), ("t", 1, 2)), 0, 1)
        other = (("a", "a", "a"), (("t", 1, 2), ("t", 0, 1)), 0, 1)
        self.assertEqual(self.unchanged(alike_ways, way, other), (0, 1, 2))
        self.assertIs(alike_ways(way, (way[0], way[1] + (("t", 2, 2),), 0, 1)), None)
        self.assertIs(alike_ways((way[0], way[1][:1], 0, 1), way), None)
        self.assertIs(alike_ways(way, (("a", "a"), way[1][:1], 0, 1)), None)
        self.assertIs(alike_ways(way, (way[0], way[1], 0, 0)), None)
        self.assertIs(alike_ways(cycle(4), cycle(2)), None)
        self.assertIs(alike_ways((("a", "a"), (), 0, 0), (("a", "a", "a"), (), 0, 0)), None)
        self.assertIs(alike_ways((("a", "a", "a"), (), 0, 0), (("a", "a"), (), 0, 0)), None)
        self.assertEqual(alike_ways(ONE, ONE), (0,))
        self.assertIs(alike_ways(ONE, (("b",), (), 0, 0)), None)
        one = (("a", "b", "a", "a"), (("t", 0, 2), ("t", 0, 3), ("r", 2, 1)), 0, 1)
        self.assertEqual(alike_ways(one, (one[0], (("r", 3, 1), ("t", 0, 3), ("t", 0, 2)), 0, 1)), (0, 1, 3, 2))
        found = some_ways(50, 86, 4)
        for one, other in itertools.product(found, found):
            right = [lead for lead in all_leads(one, other) if sorted(lead) == list(range(len(other[0])))
                     and sorted((r, lead[i], lead[j]) for r, i, j in one[1]) == sorted(other[1])]
            lead = alike_ways(one, other)
            self.assertTrue(lead in right if right else lead is None)

    def test_ways_that_lead_into_one_another(self):
        found, count = some_ways(40, 87, 5), 0
        found += [doubled(way, len(way[0]) - 1) for way in found if 2 < len(way[0])]
        for way, other in itertools.product(found, found):
            if lead_into(way, other) and lead_into(other, way):
                count += len(way[0]) != len(other[0])
                self.assertIsNotNone(alike_ways(least_way(way)[1], least_way(other)[1]))
        self.assertGreater(count, 20)

    def test_at_the_limit(self):
        way = (("a",) * 6, (), 0, 0)
        self.assertEqual(least_way(way), ((0,) * 6, ONE))
        full = (("a",) * 6, tuple(("t", i, j) for i in range(6) for j in range(6) if i != j), 0, 1)
        self.assertEqual(least_way(full)[1], full)
        joined = T
        for _ in range(39):
            joined = ("joined", joined, ("then", T, T)) if joined == T else ("joined", joined, T)
        self.assertEqual(len(plain_ways(FRAME, joined)), 40)
        long = ("then", ("then", T, T), ("then", T, ("then", T, T)))
        self.assertEqual(plain_leads(FRAME, (joined, ("joined", long, ("cut", T, SAME)))), [None] * 40)


class PlainLeads(Case):
    def test_examples(self):
        rs = ("then", R, S)
        claim = (("joined", ("cut", T, SAME), ("joined", rs, T)), ("joined", ("then", T, T), ("joined", T, ("then", R, S))))
        self.assertEqual(self.unchanged(plain_leads, FRAME, claim), [(0, (0, 0, 0)), (2, (0, 1, 2)), (1, (0, 1))])
        self.assertEqual(plain_leads(FRAME, (("joined", T, rs), ("then", R, S))), [None, (0, (0, 1, 2))])
        self.assertEqual(plain_leads(FRAME, (("none", "a", "b"), R)), [])
        self.assertEqual(plain_leads(FRAME, (R, ("none", "a", "b"))), [None])
        self.assertEqual(plain_leads(FRAME, (R, ALL)), [(0, (0, 1))])
        self.told_anew(plain_leads, FRAME, claim)

    def test_errors(self):
        for value in ODD_VALUES + [[T, T], (T,), (T, T, T)]:
            if not isinstance(value, tuple) or len(value) != 2:
                self.fails(BadTerm, {"path": ()}, plain_leads, FRAME, value)
            self.fails(BadTerm, {"path": (0, 0)}, plain_leads, FRAME, (("rest", value), None))
            self.fails(BadTerm, {"path": (1,)}, plain_leads, FRAME, (("rest", T), value))
        self.fails(BadTerm, {"path": (1, 1)}, plain_leads, FRAME, (T, ("cut", T, ("closed", R))))
        self.fails(BadTerm, {"path": (0,)}, plain_leads, FRAME, (("then", R, R), ("then", R, R)))
        self.fails(MixedEnds, {"number": 0}, plain_leads, FRAME, (("rest", R), S))
        self.fails(NotPlain, {}, plain_leads, FRAME, (("rest", R), R))
        self.fails(NotPlain, {}, plain_leads, FRAME, (R, ("joined", R, ("rest", R))))
        self.fails(NotPlain, {}, plain_leads, FRAME, (T, ("other", "a")))

    def test_it_decides(self):
        chance, counts = random.Random(88), {True: 0, False: 0}
        book = Book(FRAME, [])
        for _ in range(150):
            ends = chance.choice((("a", "a"), ("a", "b")))
            claim = (chance_term(chance, ends, 3, PLAIN), chance_term(chance, ends, 3, PLAIN))
            found = plain_leads(FRAME, claim)
            lists = [plain_ways(FRAME, term) for term in claim]
            for way, entry in zip(lists[0], found):
                right = [(number, all_leads(other, way)) for number, other in enumerate(lists[1]) if all_leads(other, way)]
                self.assertTrue(entry is None if not right else entry[0] == right[0][0] and entry[1] in right[0][1])
            counts[None in found] += 1
            self.assertIs(holds(book, claim), None not in found)
        self.assertGreater(min(counts.values()), 20)


if __name__ == "__main__":
    unittest.main()
