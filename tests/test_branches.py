"""Where states come from, and attempts (S9.6, S9.8)."""

import unittest

from pairlaws.branches import attempt, come_of, elders, last_common, line_to, tried, would
from pairlaws.deeds import differences, edited
from pairlaws.errors import BadDeed, NameMissing, NoState, PairError, TooMany, UnknownName
from tests.casesupport import seeded
from tests.storesupport import chance_deed
from tests.support import ODD_VALUES
from tests.termsupport import R, S, T, U
from tests.test_stores import StoreCase, everything, full_store, new_store


class Odd(BaseException):
    """An error that is not of the package, and not of Python's usual ones."""


def woven_store():
    """A store in which merges come from merges; its numbers are those of the test below."""
    store = new_store()
    store.branch("side")
    store.do(("name", "v1", T))            # 1 from 0
    store.do(("name", "v2", T))            # 2 from 1
    store.go("side")
    store.do(("name", "v3", T))            # 3 from 0
    store.do(("name", "v4", T))            # 4 from 3
    store.go("main")
    store.undo()
    store.branch("third")
    store.merge("side")                    # 5 from 1 and 4
    store.go("third")
    store.do(("name", "v5", T))            # 6 from 1
    store.merge("main")                    # 7 from 6 and 5
    store.go("side")
    store.undo()
    store.do(("name", "v6", T))            # 8 from 3
    return store


def elders_of(store, number):
    """The elders of a state, read from the document."""
    if number == 0:
        return {0}
    first, deed = store.log()[number - 1]
    found = {number} | elders_of(store, first)
    return found | elders_of(store, deed[1]) if deed[0] == "merge" else found


class Elders(StoreCase):
    ELDERS = [[0], [0, 1], [0, 1, 2], [0, 3], [0, 3, 4], [0, 1, 3, 4, 5], [0, 1, 6], [0, 1, 3, 4, 5, 6, 7], [0, 3, 8]]

    def test_examples(self):
        store = woven_store()
        self.assertEqual([first for first, _ in store.log()], [0, 1, 0, 3, 1, 1, 6, 3])
        self.assertEqual([store.log()[at][1] for at in (4, 6)], [("merge", 4), ("merge", 5)])
        self.assertEqual([elders(store, number) for number in range(9)], self.ELDERS)
        self.assertEqual([come_of(store, number) for number in range(9)], [
            [0, 1, 2, 3, 4, 5, 6, 7, 8], [1, 2, 5, 6, 7], [2], [3, 4, 5, 7, 8], [4, 5, 7], [5, 7], [6, 7], [7], [8]])
        for call in (elders, come_of):
            self.told_anew(call, store, 7)

    def test_last_common(self):
        store = woven_store()
        for one, some in enumerate(self.ELDERS):
            for other, others in enumerate(self.ELDERS):
                self.assertEqual(last_common(store, one, other), max(set(some) & set(others)))
        self.assertEqual([last_common(store, 7, 8), last_common(store, 5, 6), last_common(store, 7, 5)], [3, 1, 5])

    def test_line_to(self):
        store = woven_store()
        self.assertEqual(line_to(store, 0), [])
        self.assertEqual(line_to(store, 2), [("name", "v1", T), ("name", "v2", T)])
        self.assertEqual(line_to(store, 7), [("name", "v1", T), ("name", "v5", T), ("merge", 5)])
        self.assertEqual(line_to(store, 5), [("name", "v1", T), ("merge", 4)])
        self.told_anew(line_to, store, 7)
        state = store.state(0)
        for deed in line_to(store, 8):
            state = edited(state, deed)
        self.assertEqual(state, store.state(8))

    def test_state_0_alone(self):
        store = new_store()
        self.assertEqual((elders(store, 0), come_of(store, 0), last_common(store, 0, 0), line_to(store, 0)), ([0], [0], 0, []))

    def test_errors(self):
        store = woven_store()
        for value in ODD_VALUES + [9, -1, 200, "0", ("merge", 0)]:
            if isinstance(value, bool) or value not in (0, 1):
                for call in (elders, come_of, line_to):
                    self.refuses(store, NoState, {"number": value}, call, store, value)
                self.refuses(store, NoState, {"number": value}, last_common, store, value, None)
                self.refuses(store, NoState, {"number": value}, last_common, store, 8, value)

    def test_as_it_is_meant(self):
        chance = seeded(291)
        for _ in range(12):
            store = new_store()
            for name in ("b1", "b2", "b3"):
                store.branch(name)
            for number in range(30):
                store.go(chance.choice(store.branches()))
                step = chance.choice(["do", "do", "merge", "undo"])
                if step == "do":
                    store.do(("name", f"v{number}", T))
                elif step == "merge":
                    store.merge(chance.choice(store.branches()))
                elif store.mark(store.here()) > 0:
                    store.undo()
            found = [sorted(elders_of(store, number)) for number in range(len(store))]
            for number in range(len(store)):
                self.assertEqual(elders(store, number), found[number])
                self.assertEqual(come_of(store, number), [other for other in range(len(store)) if number in found[other]])
                other = chance.randrange(len(store))
                self.assertEqual(last_common(store, number, other), max(set(found[number]) & set(found[other])))


def changes(store):
    """Change everything in a store that can be changed."""
    store.do(("unname", "one"))
    store.do(("unname", "two"))
    store.undo()
    store.branch("more")
    store.go("more")
    store.do(("name", "v", T))
    store.merge("main")
    store.go("main")
    store.merge("more")
    return store.present()


class Attempts(StoreCase):
    def test_that_end(self):
        store, other = new_store(), new_store()
        self.assertEqual(attempt(store, changes), changes(other))
        self.assertIs(store == other, True)
        for value in (None, [1], store, ("a",)):
            self.assertIs(attempt(store, lambda one: value), value)
        self.assertIs(store == other, True)
        given = []
        attempt(store, given.append)
        self.assertIs(given[0], store)

    def test_that_fail(self):
        for start in (new_store, woven_store, full_store):
            for error in (PairError(), UnknownName(1), ValueError("a"), KeyError("b"), Odd(), SystemExit(), AssertionError(),
                          KeyboardInterrupt(), GeneratorExit()):
                def action(store):
                    if len(store) < 200:
                        changes(store)
                    store.undo()
                    raise error
                store = start()
                before = everything(store)
                with self.assertRaises(type(error)) as caught:
                    attempt(store, action)
                self.assertIs(caught.exception, error)
                self.assertEqual(everything(store), before)
                self.assertIs(store == start(), True)

    def test_numbers_are_used_again(self):
        store = new_store()
        with self.assertRaises(ZeroDivisionError):
            attempt(store, lambda one: [one.do(("unname", "one")), one.do(("unname", "two")), 1 // 0])
        self.assertEqual((len(store), store.log()), (1, []))
        self.assertEqual(store.do(("name", "v", T)), 1)
        self.assertEqual(store.log(), [(0, ("name", "v", T))])
        self.fails(NoState, {"number": 2}, store.state, 2)

    def test_an_error_of_the_store(self):
        store = new_store()
        before = everything(store)
        self.fails(UnknownName, {"name": "one"}, attempt, store, lambda one: [one.do(("unname", "one")), one.do(("unname", "one"))])
        self.assertEqual(everything(store), before)

        # An error that does not leave the function undoes nothing.
        def action(one):
            one.do(("unname", "one"))
            try:
                one.do(("unname", "one"))
            except UnknownName:
                return one.do(("unname", "two"))
        self.assertEqual(attempt(store, action), 2)
        self.assertEqual(store.trail("main"), [0, 1, 2])

    def test_nested(self):
        def inner(one, fails):
            one.do(("name", "v2", T))
            one.branch("more")
            if fails:
                raise Odd()
            return len(one)

        def outer(one, inner_fails, outer_fails):
            one.do(("name", "v1", T))
            try:
                attempt(one, lambda two: inner(two, inner_fails))
            except Odd:
                self.assertEqual((len(one), one.branches(), one.present()), (2, ["main"], 1))
            one.do(("name", "v3", T))
            if outer_fails:
                raise Odd()
        for inner_fails in (False, True):
            store = new_store()
            attempt(store, lambda one: outer(one, inner_fails, False))
            names = ["v1", "v3"] if inner_fails else ["v1", "v2", "v3"]
            self.assertEqual([deed[1] for _, deed in store.log()], names)
            self.assertEqual(store.branches(), ["main"] if inner_fails else ["main", "more"])
            store = new_store()
            before = everything(store)
            with self.assertRaises(Odd):
                attempt(store, lambda one: outer(one, inner_fails, True))
            self.assertEqual(everything(store), before)

    def test_twins_and_attempts(self):
        store = new_store()
        twin = store.twin()
        with self.assertRaises(Odd):
            attempt(store, lambda one: self.both(one, twin))
        self.assertEqual((len(store), len(twin)), (1, 2))

    def both(self, one, twin):
        one.do(("unname", "one"))
        twin.do(("unname", "one"))
        raise Odd()


class Tried(StoreCase):
    DEEDS = [("unname", "one"), ("put", "r", "x", "w"), ("name", "two", U), ("put", "u", "w", "v")]

    def test_tried(self):
        store, other = new_store(), new_store()
        self.assertEqual(tried(store, self.DEEDS), [1, 2, 3, 4])
        for deed in self.DEEDS:
            other.do(deed)
        self.assertIs(store == other, True)
        self.assertEqual(tried(store, []), [])
        self.assertEqual(tried(store, (("unname", "two"),)), [5])
        self.assertIs(store == other, False)
        self.told_anew(lambda one: tried(one.twin(), [("name", "v", T)]), store)

    def test_all_or_nothing(self):
        store = new_store()
        store.do(("name", "v", S))
        store.do(("name", "v", T))
        store.undo()
        for call in (tried, would):
            for value in ODD_VALUES:
                self.refuses(store, BadDeed, {}, call, store, [("unname", "v"), value, ("unname", "q")])
            self.refuses(store, UnknownName, {"name": "v"}, call, store, [("unname", "v"), ("unname", "v"), None])
        self.assertEqual(store.again(), 2)

    def test_would(self):
        store = new_store()
        before = everything(store)
        deeds = [("put", "s", "w", "z"), ("name", "three", T), ("unname", "one")]
        after = store.now()
        for deed in deeds:
            after = edited(after, deed)
        self.assertEqual(would(store, deeds), differences(store.now(), after))
        self.assertEqual(would(store, deeds), [("one", (), (("x", "w"),)), ("three", (("x", "y"),), ()), ("two", (("x", "z"),), ())])
        self.assertEqual(would(store, []), [])
        self.assertEqual(everything(store), before)
        self.told_anew(would, store, deeds)
        # From the present state, not from the first one.
        store.do(("name", "one", T))
        self.assertEqual(would(store, [("name", "one", R)]), [("one", (("x", "w"),), (("x", "y"),))])

    def test_too_many(self):
        store = full_store()
        for call in (tried, would):
            self.refuses(store, TooMany, {}, call, store, [("unname", "one"), None])
            self.refuses(store, BadDeed, {}, call, store, [None, ("unname", "one")])
        self.assertEqual(tried(store, []), [])
        self.assertEqual(would(store, []), [])
        store = new_store()
        for number in range(197):
            store.do(("put", "u", "v", "v") if number % 2 == 0 else ("take", "u", "v", "v"))
        self.assertEqual(would(store, [("all", ())] * 2), [])
        for call in (tried, would):
            self.refuses(store, TooMany, {}, call, store, [("all", ())] * 3)
            self.refuses(store, BadDeed, {}, call, store, [("all", ()), ("all", ()), ()])
        self.assertEqual(tried(store, [("all", ())] * 2), [198, 199])

    def test_as_it_is_meant(self):
        chance = seeded(292)
        seen = {}
        for _ in range(60):
            store = new_store()
            deeds = [chance_deed(chance, store.now()) for _ in range(chance.randint(0, 4))]
            other, before = store.twin(), everything(store)
            error = None
            try:
                for deed in deeds:
                    other.do(deed)
            except (PairError, NameMissing) as caught:
                error = caught
            seen[error is None] = True
            if error is None:
                self.assertEqual(would(store, deeds), differences(store.now(), other.now()))
                self.assertEqual(everything(store), before)
                self.assertEqual(tried(store, deeds), list(range(1, len(deeds) + 1)))
                self.assertIs(store == other, True)
            else:
                self.refuses(store, type(error), vars(error), would, store, deeds)
                self.refuses(store, type(error), vars(error), tried, store, deeds)
        self.assertEqual(len(seen), 2)


if __name__ == "__main__":
    unittest.main()
