"""Leads of ways into worlds (S5.3, S5.4)."""

import itertools
import random
import unittest

from pairlaws.books import Book, obeys
from pairlaws.errors import BadTerm, MixedFrames, NotShort, NotTotal, UnknownName
from pairlaws.frames import Frame
from pairlaws.leads import chosen, first_lead, is_lead, lead_world, leads, worth_by_ways
from pairlaws.relations import Relation
from pairlaws.ways import made, ways
from pairlaws.worlds import World
from pairlaws.worldworks import whole_part
from pairlaws.worths import worth
from tests.support import ODD_VALUES, Case
from tests.termsupport import FLAT, FRAME, KEPT, R, S, SHORT, T, U, chance_term, chance_terms, chance_world, chance_worlds

WORLD = World(FRAME, {"a": ["y", "x", "z"], "b": ["w", "x"]}, {
    "r": [("x", "w"), ("y", "x"), ("x", "x")], "s": [("w", "z"), ("x", "y")],
    "t": [("x", "y"), ("y", "z"), ("z", "z")], "u": []})
RS = (("a", "a", "b"), ((R, 0, 2), (S, 2, 1)))
CHAIN = Frame(["c", "a", "b"], [("r", "a", "b"), ("s", "b", "c"), ("q", "c", "a")], [("s", "on"), ("r", "on"), ("q", "back")])


def chain_world(**pairs):
    told = {"r": [("x", "w"), ("x", "v"), ("y", "x")], "s": [("v", "k"), ("w", "x"), ("w", "k"), ("x", "k")],
            "q": [("k", "x"), ("x", "x"), ("k", "y")]}
    return World(CHAIN, {"c": ["x", "k"], "a": ["x", "y"], "b": ["v", "w", "x"]}, {**told, **pairs})


def all_leads(way, world):
    sorts, marks = way
    found = []
    for things in itertools.product(*[world.things(sort) for sort in sorts]):
        if all((things[i], things[j]) in worth(world, term) for term, i, j in marks):
            found.append(things)
    return found


class Leads(Case):
    def test_examples(self):
        self.assertEqual(self.unchanged(leads, RS, WORLD), [("y", "y", "x"), ("x", "y", "x"), ("x", "z", "w")])
        self.assertEqual(leads((("a", "a"), ()), WORLD), list(itertools.product("yxz", "yxz")))
        self.assertEqual(leads((("a", "b"), ((("none", "a", "b"), 0, 1),)), WORLD), [])
        self.told_anew(leads, RS, WORLD)

    def test_marks_at_one_place(self):
        self.assertEqual(leads((("a", "b"), ((T, 0, 0),)), WORLD), [("z", "w"), ("z", "x")])
        self.assertEqual(leads((("b", "a"), ((T, 1, 1), (("rest", U), 0, 0))), WORLD), [("w", "z"), ("x", "z")])
        self.assertEqual(leads((("a", "a"), ((("other", "a"), 1, 1),)), WORLD), [])
        self.assertIs(is_lead((("a", "b"), ((T, 0, 0),)), WORLD, ("z", "w")), True)
        self.assertIs(is_lead((("a", "b"), ((T, 0, 0),)), WORLD, ("x", "w")), False)

    def test_empty_sorts(self):
        world = World(FRAME, {"a": ["x"], "b": []}, {"r": [], "s": [], "t": [], "u": []})
        self.assertEqual(leads((("a", "a", "b"), ()), world), [])
        self.assertEqual(leads((("a", "a"), ()), world), [("x", "x")])
        self.assertIs(first_lead((("a", "a", "b"), ()), world, "x", "x"), None)

    def test_is_lead(self):
        self.judged(is_lead, (RS, WORLD), [("y", "y", "x"), ("x", "z", "w")])
        for value in (["y", "y", "x"], ("y", "y"), ("y", "y", "x", "x"), ("y", "y", "w"), ("w", "y", "x"), ("y", "y", ["x"]),
                      ("y", True, "x"), (), ("y", "y", None)):
            self.assertIs(self.unchanged(is_lead, RS, WORLD, value), False)
        for value in ODD_VALUES + ["w", "q"]:
            self.assertIs(is_lead((("a", "b"), ()), WORLD, (value, "w")), False)
            self.assertIs(is_lead((("b", "a"), ()), WORLD, ("w", value)), False)

    def test_all_and_first(self):
        count = 0
        for number, world in enumerate(chance_worlds(40, 71)):
            for ends, term in chance_terms(5, 4, 600 + number, SHORT):
                for way in ways(FRAME, term)[:4]:
                    if len(way[0]) > 5:
                        continue
                    found = all_leads(way, world)
                    count += len(found)
                    self.assertEqual(leads(way, world), found)
                    for things in itertools.product(*[world.things(sort) for sort in way[0][:5]]):
                        self.assertIs(is_lead(way, world, things), things in found)
                    for x, y in itertools.product(world.things(ends[0]), world.things(ends[1])):
                        first = [lead for lead in found if lead[:2] == (x, y)][:1]
                        self.assertEqual(first_lead(way, world, x, y), first[0] if first else None)
        self.assertGreater(count, 300)

    def test_first_lead(self):
        self.assertEqual(self.unchanged(first_lead, RS, WORLD, "x", "y"), ("x", "y", "x"))
        self.assertIs(first_lead(RS, WORLD, "z", "z"), None)
        for value in ODD_VALUES + ["w", "q"]:
            self.fails(UnknownName, {"name": value}, first_lead, RS, WORLD, value, "q")
            self.fails(UnknownName, {"name": value}, first_lead, RS, WORLD, "z", value)

    def test_many_leads(self):
        things = ["n1", "n2", "n3", "n4", "n5", "n6"]
        world = World(FRAME, {"a": things[:2], "b": things}, {"r": [], "s": [], "t": [], "u": []})
        self.assertEqual(len(leads((("b", "b", "b", "b", "b"), ()), world)), 7776)
        self.assertEqual(len(leads((("a",) * 12, ((("same", "a"), 10, 11),)), world)), 2048)

    def test_worth_by_ways(self):
        self.assertEqual(self.unchanged(worth_by_ways, WORLD, ("then", R, S)),
                         Relation(["y", "x", "z"], ["y", "x", "z"], [("y", "y"), ("x", "y"), ("x", "z")]))
        for number, world in enumerate(chance_worlds(60, 72)):
            for _, term in chance_terms(4, 4, 700 + number, SHORT):
                if max(len(way[0]) for way in ways(FRAME, term)) < 8:
                    self.assertEqual(worth_by_ways(world, term), worth(world, term))

    def test_wrong_terms(self):
        for value in ODD_VALUES:
            self.fails(BadTerm, {"path": (0,)}, worth_by_ways, WORLD, ("closed", value))
        self.fails(BadTerm, {"path": (1,)}, worth_by_ways, WORLD, ("joined", ("closed", T), ("closed", R)))
        for term in (("closed", T), ("rest", ("then", T, T))):
            self.fails(NotShort, {}, worth_by_ways, WORLD, term)


class Chosen(Case):
    def test_examples(self):
        world, way = chain_world(), (("b", "a", "b"), ())
        book = Book(CHAIN, [])
        self.assertEqual(made(book, way)[0], ("b", "a", "b", "c", "b", "c", "c", "c"))
        self.assertEqual(self.unchanged(chosen, book, way, world, ("w", "x", "w")), ("w", "x", "w", "x", "v", "x", "x", "k"))
        self.assertEqual(chosen(book, way, world, ("x", "y", "v")), ("x", "y", "v", "k", "x", "k", "k", "k"))
        part = self.unchanged(lead_world, book, way, world, ("w", "x", "w"))
        self.assertEqual(part.told(), ({"c": ["x", "k"], "a": ["x"], "b": ["v", "w"]}, {
            "r": [("x", "v"), ("x", "w")], "s": [("v", "k"), ("w", "x"), ("w", "k")], "q": [("x", "x"), ("k", "x")]}))
        self.assertEqual(lead_world(Book(FRAME, []), RS, WORLD, ("y", "y", "x")).told()[0], {"a": ["y"], "b": ["x"]})
        self.assertEqual(chosen(Book(FRAME, []), RS, WORLD, ("y", "y", "x")), ("y", "y", "x"))

    def test_errors(self):
        book, way = Book(CHAIN, []), (("b", "a"), ())

        def bad(told, world, lead):
            for call in (chosen, lead_world):
                self.fails(NotTotal, dict(zip(("name", "word", "member"), told)), call, book, way, world, lead)
        bad(("s", "on", "v"), chain_world(s=[], r=[], q=[]), ("v", "y"))
        bad(("r", "on", "y"), chain_world(r=[("x", "v")], q=[]), ("v", "y"))
        bad(("q", "back", "y"), chain_world(q=[("k", "x")], s=[("v", "k")]), ("v", "y"))
        bad(("s", "on", "x"), chain_world(s=[("v", "k")]), ("v", "y"))
        for call in (chosen, lead_world):
            self.fails(MixedFrames, {}, call, book, RS, WORLD, ("y", "y", "x"))
            self.fails(MixedFrames, {}, call, book, way, World(FRAME, *WORLD.told()), ("v", "y"))

    def test_what_it_holds(self):
        chance, count = random.Random(73), 0
        frame = Frame(["a", "b"], FRAME.letters(), [("r", "on")])
        for _ in range(400):
            world = chance_world(chance, frame)
            ends = (chance.choice("ab"), chance.choice("ab"))
            book = Book(frame, [(chance_term(chance, ends, 3, (KEPT,)), chance_term(chance, ends, 2, FLAT))])
            way = ways(frame, chance_term(chance, ends, 3, SHORT))[0]
            for lead in leads(way, world)[:3] if obeys(book, world) else []:
                count += 1
                things = chosen(book, way, world, lead)
                self.assertTrue(is_lead(made(book, way), world, things))
                self.assertEqual(things[:len(lead)], lead)
                part = lead_world(book, way, world, lead)
                self.assertTrue(obeys(book, part))
                self.assertLessEqual(part.total(), len(things))
                spots = {sort: [x for x in world.things(sort) if (sort, x) in zip(way[0], lead)] for sort in "ab"}
                self.assertEqual(part, whole_part(world, spots))
        self.assertGreater(count, 100)


if __name__ == "__main__":
    unittest.main()
