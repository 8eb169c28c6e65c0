"""Stores: states, the log, branches, undo and again, merges (S9.5 to S9.7)."""

import unittest

from pairlaws.books import Book
from pairlaws.branches import elders, last_common
from pairlaws.deeds import deed_between, edited, in_order
from pairlaws.errors import (BadDeed, BadName, BadTerm, Broken, Clash, MixedFrames, NameMissing, NoState, NothingDone,
                             NotTold, PairError, TooMany, TwiceTold, UnknownName)
from pairlaws.frames import Frame
from pairlaws.merging import clashes, merged
from pairlaws.stores import Store
from pairlaws.worlds import World
from pairlaws.worths import worth
from tests.casesupport import seeded
from tests.storesupport import chance_deed, chance_state, state_of
from tests.support import NOT_WORDS, ODD_VALUES, Case
from tests.termsupport import FRAME, R, S, T, U

START = state_of(["t ; t <= t", "r <= r"], {"a": ["x", "y", "z"], "b": ["w", "v"]},
                 {"r": [("x", "w")], "t": [("x", "y")]}, {"one": R, "two": ("then", R, S)})
BOOK = Book(FRAME, [(R, R), (("then", T, T), T), (R, R)])
WORLD = World(FRAME, {"a": ["z", "x", "y"], "b": ["w", "v"]}, {"r": [("x", "w")], "s": [], "t": [("x", "y")], "u": []})
VIEWS = {"two": ("then", R, S), "one": R}


def new_store():
    return Store(BOOK, WORLD, dict(VIEWS))


def full_store():
    """A store with 200 states."""
    store = new_store()
    for number in range(199):
        store.do(("put", "u", "v", "v") if number % 2 == 0 else ("take", "u", "v", "v"))
    return store


def everything(store):
    """All that a store tells."""
    names = store.branches()
    return ([store.state(number) for number in range(len(store))], store.log(), names,
            [(store.trail(name), store.mark(name)) for name in names], store.here(), store.present(), store.now(), store.frame())


class StoreCase(Case):
    def refuses(self, store, error, told, call, *args):
        """The call raises the error and changes nothing that the store tells."""
        before = everything(store)
        self.fails(error, told, call, *args)
        self.assertEqual(everything(store), before)


class Made(StoreCase):
    def test_new(self):
        store = new_store()
        self.assertEqual(everything(store), ([START], [], ["main"], [([0], 0)], "main", 0, START, FRAME))
        self.assertEqual(len(store), 1)
        self.assertEqual(store.state(0), START)
        for call in (store.log, store.branches):
            self.told_anew(call)
        self.told_anew(store.trail, "main")

    def test_passed_values_are_not_kept(self):
        views = dict(VIEWS)
        store = Store(BOOK, WORLD, views)
        views["three"] = T
        del views["one"]
        self.assertEqual(store.now(), START)
        self.assertEqual(views, {"two": VIEWS["two"], "three": T})

    def test_errors(self):
        other = World(Frame(["a"], [], []), {"a": []}, {})
        self.fails(MixedFrames, {}, Store, BOOK, other, {1: 0})
        self.fails(BadName, {"name": 1}, Store, BOOK, WORLD, {"v": 0, 1: 0})
        self.fails(BadTerm, {"path": (0,)}, Store, BOOK, WORLD, {"v": ("rest", 0), "a": 0})
        broken = Book(FRAME, [(R, R), (T, ("none", "a", "a"))])
        self.fails(Broken, {"members": ("premise", 1, "x", "y")}, Store, broken, WORLD, {})

    def test_empty(self):
        frame = Frame([], [], [])
        store = Store(Book(frame, []), World(frame, {}, {}), {})
        self.assertEqual(store.now(), (Book(frame, []), World(frame, {}, {}), ()))
        self.assertEqual(store.do(("all", ())), 1)
        self.assertEqual(store.frame(), frame)


class Deeds(StoreCase):
    def test_line(self):
        store = new_store()
        deeds = [("put", "r", "y", "w"), ("put", "r", "y", "w"), ("all", (("add", "a", "q"), ("put", "t", "q", "q"))), ("unname", "two")]
        state = START
        for number, deed in enumerate(deeds):
            self.assertEqual(store.do(deed), number + 1)
            state = edited(state, deed)
            self.assertEqual((store.now(), store.present()), (state, number + 1))
        self.assertEqual(store.log(), list(enumerate(deeds)))
        self.assertEqual((len(store), store.trail("main"), store.mark("main")), (5, [0, 1, 2, 3, 4], 4))
        # Also a deed that changes nothing makes a state.
        self.assertEqual(store.state(1), store.state(2))
        self.assertEqual(store.state(0), START)

    def test_errors(self):
        store = new_store()
        store.do(("put", "r", "y", "w"))
        for value in ODD_VALUES + [("merge", 0), ("all", (("all", ()),))]:
            self.refuses(store, BadDeed, {}, store.do, value)
        for error, told, deed in [
                (UnknownName, {"name": "q"}, ("put", "r", "q", "w")), (NotTold, {"name": ("r", "z", "w")}, ("take", "r", "z", "w")),
                (TwiceTold, {"name": "x"}, ("add", "a", "x")), (BadName, {"name": ""}, ("add", "a", "")),
                (BadTerm, {"path": ()}, ("name", "v", None)), (Broken, {"members": ("premise", 1, "x", "z")}, ("put", "t", "y", "z")),
                (UnknownName, {"name": "q"}, ("all", (("put", "r", "z", "w"), ("unname", "q"))))]:
            self.refuses(store, error, told, store.do, deed)

    def test_numbers_of_states(self):
        store = new_store()
        store.do(("unname", "one"))
        for value in ODD_VALUES + [2, -1, -2, "0", "1"]:
            if isinstance(value, bool) or value not in (0, 1):
                self.refuses(store, NoState, {"number": value}, store.state, value)
                self.refuses(store, NoState, {"number": value}, store.worth_at, value, "none")
        self.assertEqual(store.state(0), START)
        self.assertEqual(store.state(1), store.now())

    def test_worths(self):
        store = new_store()
        store.do(("all", (("put", "s", "w", "z"), ("name", "three", U), ("unname", "one"))))
        self.assertEqual(store.worth_of("two"), worth(store.now()[1], ("then", R, S)))
        self.assertEqual(store.worth_of("two").pairs(), [("x", "z")])
        self.assertEqual(store.worth_at(0, "two").pairs(), [])
        self.assertEqual(store.worth_at(0, "one").pairs(), [("x", "w")])
        self.assertEqual(len(store.worth_of("three")), 0)
        for value in ODD_VALUES + ["one", "r", "main"]:
            self.refuses(store, UnknownName, {"name": value}, store.worth_of, value)
        for value in ODD_VALUES + ["three", "r"]:
            self.refuses(store, UnknownName, {"name": value}, store.worth_at, 0, value)
        store.undo()
        self.assertEqual(store.worth_of("one").pairs(), [("x", "w")])

    def test_states_from_an_earlier_one(self):
        store = new_store()
        store.do(("unname", "one"))
        store.undo()
        self.assertEqual(store.do(("unname", "two")), 2)
        self.assertEqual(store.log(), [(0, ("unname", "one")), (0, ("unname", "two"))])
        self.assertEqual(store.now()[2], (("one", R),))
        self.assertEqual(store.state(1)[2], (("two", ("then", R, S)),))

    def test_200_states(self):
        store = full_store()
        self.assertEqual((len(store), store.present(), len(store.log())), (200, 199, 199))
        self.refuses(store, TooMany, {}, store.do, ("unname", "one"))
        # What edited raises comes first.
        self.refuses(store, BadDeed, {}, store.do, None)
        self.refuses(store, Broken, {"members": ("premise", 1, "x", "z")}, store.do, ("put", "t", "y", "z"))
        store.undo()
        self.refuses(store, TooMany, {}, store.do, ("unname", "one"))
        self.assertEqual(store.again(), 199)


class UndoAndAgain(StoreCase):
    def test_trail(self):
        store = new_store()
        self.refuses(store, NothingDone, {}, store.undo)
        self.refuses(store, NothingDone, {}, store.again)
        for name in ("one", "two"):
            store.do(("unname", name))
        self.refuses(store, NothingDone, {}, store.again)
        self.assertEqual([store.undo(), store.present(), store.mark("main")], [1, 1, 1])
        self.assertEqual([store.undo(), store.now()], [0, START])
        self.refuses(store, NothingDone, {}, store.undo)
        self.assertEqual([store.again(), store.again(), store.trail("main"), len(store)], [1, 2, [0, 1, 2], 3])
        self.refuses(store, NothingDone, {}, store.again)

    def test_a_deed_behind_an_undo(self):
        store = new_store()
        for name in ("one", "two"):
            store.do(("unname", name))
        store.undo()
        store.undo()
        self.assertEqual(store.do(("name", "three", T)), 3)
        self.assertEqual((store.trail("main"), store.mark("main"), len(store)), ([0, 3], 1, 4))
        self.assertEqual(store.log()[2], (0, ("name", "three", T)))
        self.refuses(store, NothingDone, {}, store.again)
        self.assertEqual([store.undo(), store.again()], [0, 3])
        # A refused deed does not cut the trail.
        store.undo()
        self.refuses(store, UnknownName, {"name": "q"}, store.do, ("unname", "q"))
        self.assertEqual(store.again(), 3)


class Branches(StoreCase):
    def test_branches(self):
        store = new_store()
        store.do(("unname", "one"))
        self.assertIs(store.branch("side"), None)
        self.assertEqual((store.here(), store.branches(), store.trail("side"), store.mark("side")), ("main", ["main", "side"], [1], 0))
        store.do(("unname", "two"))
        self.assertEqual((store.trail("main"), store.trail("side"), store.present()), ([0, 1, 2], [1], 2))
        self.assertEqual([store.go("side"), store.here(), store.present()], [1, "side", 1])
        self.refuses(store, NothingDone, {}, store.undo)
        self.assertEqual(store.do(("name", "three", T)), 3)
        self.assertEqual((store.trail("main"), store.trail("side"), store.log()[2]), ([0, 1, 2], [1, 3], (1, ("name", "three", T))))
        store.undo()
        self.assertEqual([store.go("main"), store.mark("side"), store.go("side"), store.again()], [2, 0, 1, 3])
        self.assertEqual(store.go("side"), 3)
        store.undo()
        store.branch("a0")
        self.assertEqual((store.branches(), store.trail("a0"), store.mark("a0")), (["main", "side", "a0"], [1], 0))

    def test_names(self):
        store = new_store()
        store.branch("side")
        for value in NOT_WORDS + ["main", "side"]:
            self.refuses(store, BadName, {"name": value}, store.branch, value)
        for value in ODD_VALUES + ["x", "Main"]:
            for call in (store.go, store.trail, store.mark, store.merge):
                self.refuses(store, UnknownName, {"name": value}, call, value)

    def test_six_branches(self):
        store = new_store()
        for name in ("b1", "b2", "b3", "b4"):
            store.branch(name)
        self.assertIs(store.branch("b5"), None)
        self.refuses(store, TooMany, {}, store.branch, "b6")
        self.refuses(store, BadName, {"name": "b5"}, store.branch, "b5")
        self.refuses(store, BadName, {"name": "B"}, store.branch, "B")
        self.assertEqual(store.branches(), ["main", "b1", "b2", "b3", "b4", "b5"])


class Merges(StoreCase):
    def test_merge(self):
        store = new_store()
        store.branch("side")
        store.do(("put", "r", "y", "v"))
        store.go("side")
        store.do(("add", "a", "q"))
        store.do(("name", "one", S))
        self.assertEqual(store.merge("main"), 4)
        self.assertEqual(store.now(), merged(START, store.state(3), store.state(1)))
        self.assertEqual((store.log()[3], store.trail("side"), store.mark("side")), ((3, ("merge", 1)), [0, 2, 3, 4], 3))
        self.assertEqual((store.trail("main"), store.here()), ([0, 1], "side"))
        # The elder branch takes over what the merge made: a new state is made although it is an elder of it.
        self.assertEqual([store.go("main"), store.merge("side")], [1, 5])
        self.assertEqual((store.now(), store.log()[4]), (store.state(4), (1, ("merge", 4))))

    def test_nothing_to_merge(self):
        store = new_store()
        store.branch("side")
        store.do(("unname", "one"))
        for name in ("main", "side"):
            before = everything(store)
            self.assertEqual(store.merge(name), 1)
            self.assertEqual(everything(store), before)
        store.undo()
        self.assertEqual((store.merge("side"), store.merge("main"), len(store)), (0, 0, 2))
        # Of the elders by a merge, too.
        store.do(("unname", "two"))
        store.go("side")
        store.do(("name", "three", T))
        self.assertEqual(store.merge("main"), 4)
        self.assertEqual((store.merge("main"), len(store)), (4, 5))

    def test_a_younger_one(self):
        store = new_store()
        store.branch("side")
        store.do(("unname", "one"))
        store.go("side")
        self.assertEqual(store.merge("main"), 2)
        self.assertEqual((store.now(), store.log()[1], store.trail("side")), (store.state(1), (0, ("merge", 1)), [0, 2]))

    def test_merge_behind_an_undo(self):
        store = new_store()
        store.branch("side")
        store.do(("unname", "one"))
        store.do(("unname", "two"))
        store.undo()
        store.go("side")
        store.do(("name", "three", T))
        store.go("main")
        # The present states of both branches count, not the ends of the trails.
        self.assertEqual(store.merge("side"), 4)
        self.assertEqual((store.trail("main"), store.mark("main"), store.log()[3]), ([0, 1, 4], 2, (1, ("merge", 3))))
        self.assertEqual([name for name, _ in store.now()[2]], ["three", "two"])

    def test_errors(self):
        store = new_store()
        store.branch("side")
        store.do(("all", (("leave", "a", "z"), ("name", "one", S), ("unname", "two"))))
        store.go("side")
        store.do(("all", (("put", "t", "z", "z"), ("put", "r", "z", "w"), ("name", "one", T), ("name", "two", U))))
        self.refuses(store, Clash, {"spots": (("thing", "a", "z"), ("view", "one"), ("view", "two"))}, store.merge, "main")
        store = new_store()
        store.branch("side")
        store.do(("let", T, ("other", "a")))
        store.go("side")
        store.do(("put", "t", "z", "z"))
        self.refuses(store, Broken, {"members": ("premise", 2, "z", "z")}, store.merge, "main")

    def test_200_states(self):
        store = new_store()
        store.branch("side")
        store.branch("clash")
        store.branch("broken")
        store.do(("name", "one", S))
        store.go("side")
        store.do(("name", "three", T))
        store.go("clash")
        store.do(("name", "one", T))
        store.go("broken")
        store.do(("let", U, ("none", "b", "b")))
        store.go("main")
        for number in range(195):
            store.do(("put", "u", "v", "v") if number % 2 == 0 else ("take", "u", "v", "v"))
        self.assertEqual(len(store), 200)
        self.refuses(store, TooMany, {}, store.merge, "side")
        self.refuses(store, Clash, {"spots": (("view", "one"),)}, store.merge, "clash")
        self.refuses(store, Broken, {"members": ("premise", 2, "v", "v")}, store.merge, "broken")
        self.assertEqual(store.merge("main"), 199)
        store.undo()
        self.refuses(store, TooMany, {}, store.merge, "side")

    def test_the_200th_by_a_merge(self):
        store = new_store()
        store.branch("side")
        store.do(("name", "one", S))
        store.go("side")
        for number in range(197):
            store.do(("put", "u", "v", "v") if number % 2 == 0 else ("take", "u", "v", "v"))
        self.assertEqual(len(store), 199)
        self.assertEqual(store.merge("main"), 199)
        self.refuses(store, TooMany, {}, store.do, ("all", ()))
        self.assertEqual(store.merge("main"), 199)


class Equal(StoreCase):
    def test_twin(self):
        store = new_store()
        store.branch("side")
        store.do(("unname", "one"))
        store.undo()
        twin = store.twin()
        self.assertIsInstance(twin, Store)
        self.assertIs(store == twin, True)
        self.assertEqual(everything(store), everything(twin))
        for change in (lambda one: one.again(), lambda one: one.do(("unname", "two")), lambda one: one.go("side"),
                       lambda one: one.branch("more")):
            twin = store.twin()
            before = everything(store)
            change(twin)
            self.assertIs(store == twin, False)
            self.assertIs(twin != store, True)
            self.assertEqual(everything(store), before)
            before = everything(twin)
            change(store)
            self.assertIs(store == twin, True)
            self.assertEqual(everything(twin), before)

    def test_what_counts(self):
        self.assertIs(new_store() == new_store(), True)
        for value in ODD_VALUES + [START, BOOK, WORLD]:
            self.assertIs(new_store() == value, False)
            self.assertIs(value == new_store(), False)

        def made(*steps):
            store = new_store()
            for name, *args in steps:
                getattr(store, name)(*args)
            return store
        put, none = ("do", ("put", "r", "x", "w")), ("do", ("all", ()))
        stores = [made(), made(put), made(none), made(put, none), made(none, put), made(put, ("undo",)), made(("branch", "s")),
                  made(("branch", "q")), made(("branch", "s"), ("branch", "q")), made(("branch", "q"), ("branch", "s")),
                  made(("branch", "s"), ("go", "s")), made(("branch", "s"), put), made(put, ("branch", "s")),
                  made(put, ("undo",), none), made(put, none, ("undo",)), made(put, none, ("undo",), ("undo",)),
                  made(put, ("undo",), ("branch", "s"), ("go", "s"), ("merge", "main")),
                  made(put, ("branch", "s"), ("undo",), ("merge", "s"))]
        for at, store in enumerate(stores):
            for other_at, other in enumerate(stores):
                self.assertIs(store == other, at == other_at, (at, other_at))

    def test_first_states(self):
        self.assertIs(Store(BOOK, WORLD, VIEWS) == Store(BOOK, WORLD, {"one": R}), False)
        self.assertIs(Store(BOOK, WORLD, VIEWS) == Store(Book(FRAME, []), WORLD, VIEWS), False)
        world = World(FRAME, {"a": [], "b": []}, {"r": [], "s": [], "t": [], "u": []})
        self.assertIs(Store(BOOK, WORLD, VIEWS) == Store(BOOK, world, VIEWS), False)
        self.assertIs(Store(*START[:2], dict(START[2])) == new_store(), True)


class Everything(StoreCase):
    def test_as_it_is_meant(self):
        chance = seeded(281)
        kinds = {}
        for _ in range(30):
            store, model = self.start(chance)
            for _ in range(50):
                step = chance.choice(["do"] * 6 + ["undo", "undo", "again", "branch", "branch", "go", "go", "merge", "merge"])
                before = everything(store)
                try:
                    self.one_step(chance, store, model, step)
                    kinds[step] = True
                except (PairError, NameMissing) as error:
                    kinds[step, type(error).__name__] = True
                    self.assertEqual(everything(store), before)
                self.compare(store, model)
        for kind in ("do", "undo", "again", "branch", "go", "merge", ("merge", "Clash"), ("undo", "NothingDone"),
                     ("branch", "TooMany"), ("again", "NothingDone"), ("do", "Broken")):
            self.assertIn(kind, kinds)

    def start(self, chance):
        state = chance_state(chance)
        return Store(state[0], state[1], dict(state[2])), {
            "states": [state], "log": [], "trails": {"main": [0]}, "marks": {"main": 0}, "here": "main"}

    def compare(self, store, model):
        names = list(model["trails"])
        present = model["trails"][model["here"]][model["marks"][model["here"]]]
        self.assertEqual(everything(store), (
            model["states"], model["log"], names, [(model["trails"][name], model["marks"][name]) for name in names],
            model["here"], present, model["states"][present], FRAME))

    def add(self, model, state, deed):
        here = model["here"]
        trail, mark = model["trails"][here], model["marks"][here]
        model["log"].append((trail[mark], deed))
        model["trails"][here] = trail[:mark + 1] + [len(model["states"])]
        model["marks"][here] = mark + 1
        model["states"].append(state)

    def one_step(self, chance, store, model, step):
        here = model["here"]
        mark = model["marks"][here]
        present = model["trails"][here][mark]
        if step == "do":
            deed = chance_deed(chance, model["states"][present])
            self.assertEqual(store.do(deed), len(model["states"]))
            self.add(model, edited(model["states"][present], deed), deed)
        elif step in ("undo", "again"):
            moved = mark + (1 if step == "again" else -1)
            found = store.undo() if step == "undo" else store.again()
            model["marks"][here] = moved
            self.assertEqual(found, model["trails"][here][moved])
        elif step == "branch":
            name = chance.choice(["b1", "b2", "b3", "b4", "b5", "b6", "b7"])
            store.branch(name)
            model["trails"][name] = [present]
            model["marks"][name] = 0
        else:
            name = chance.choice(list(model["trails"]))
            other = model["trails"][name][model["marks"][name]]
            if step == "go":
                self.assertEqual(store.go(name), other)
                model["here"] = name
                return
            found = store.merge(name)
            if other in elders(store, present):
                self.assertEqual(found, present)
                return
            self.assertEqual(found, len(model["states"]))
            elder = model["states"][last_common(store, present, other)]
            self.assertEqual(clashes(elder, model["states"][present], model["states"][other]), [])
            self.add(model, merged(elder, model["states"][present], model["states"][other]), ("merge", other))


class Between(StoreCase):
    def test_deeds_between_states_of_a_store(self):
        store = new_store()
        store.do(("all", (("leave", "a", "x"), ("unlet", R, R))))
        store.undo()
        store.do(("name", "one", ("turned", S)))
        store.do(deed_between(store.now(), store.state(1)))
        self.assertEqual(store.now(), store.state(1))
        self.assertEqual(in_order(store.now()[0], store.now()[1], dict(store.now()[2])), store.now())


if __name__ == "__main__":
    unittest.main()
