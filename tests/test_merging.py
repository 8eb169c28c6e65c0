"""States that come from a common elder one, merged key by key (S9.7)."""

import itertools
import unittest

from pairlaws.books import Book, obeys
from pairlaws.deeds import edited, in_order
from pairlaws.errors import Broken, Clash, MixedFrames, NameMissing, PairError
from pairlaws.frames import Frame
from pairlaws.merging import clashes, merged
from pairlaws.worlds import World
from tests.casesupport import seeded
from tests.storesupport import ON, chance_deed, chance_state, premise, state_of
from tests.support import Case
from tests.termsupport import FRAME, R, S, T, U

ELDER = state_of(["t ; t <= t", "r <= r"], {"a": ["x", "y", "z"], "b": ["w", "v"]},
                 {"r": [("x", "w")], "t": [("x", "y")]}, {"one": R, "two": S, "three": T})


def after(*deeds, start=ELDER):
    return edited(start, ("all", deeds))


def keys_of(state):
    """All keys of a state with what it has there; a key that is not in the dict is absent."""
    book, world, views = state
    things, pairs = world.told()
    found = {("thing", sort, x): True for sort in things for x in things[sort]}
    found.update({("pair", name, x, y): True for name in pairs for x, y in pairs[name]})
    found.update({("let", p, q): True for p, q in book.premises()})
    found.update({("view", name): term for name, term in views})
    return found


def merge_by_keys(elder, one, other):
    """The merged keys and the spots, read from the document."""
    told = [keys_of(state) for state in (elder, one, other)]
    made, spots = {}, []
    for key in {**told[0], **told[1], **told[2]}:
        old, first, second = [values.get(key) for values in told]
        if first == old:
            value = second
        elif second == old or first == second:
            value = first
        else:
            spots.append(key)
            continue
        if value is not None:
            made[key] = value
    frame = elder[0].frame()
    things = set()
    for key in made:
        if key[0] == "pair":
            things |= {("thing", sort, x) for sort, x in zip(frame.ends(key[1]), key[2:]) if ("thing", sort, x) not in made}
    found = sorted(things, key=lambda spot: (frame.sorts().index(spot[1]), spot[2])) + sorted(spots)
    return made, found


class Merged(Case):
    def test_each_kind_of_key(self):
        one = after(("add", "a", "q"), ("put", "t", "z", "z"), ("let", U, U), ("name", "four", T), ("unname", "two"))
        other = after(("leave", "b", "v"), ("take", "t", "x", "y"), ("unlet", R, R), ("name", "one", ("joined", R, R)))
        right = state_of(["t ; t <= t", "u <= u"], {"a": ["x", "y", "z", "q"], "b": ["w"]},
                         {"r": [("x", "w")], "t": [("z", "z")]}, {"one": ("joined", R, R), "three": T, "four": T})
        self.assertEqual(self.unchanged(clashes, ELDER, one, other), [])
        self.assertEqual(self.unchanged(merged, ELDER, one, other), right)
        self.assertEqual(merged(ELDER, other, one), right)

    def test_one_agrees_with_the_elder(self):
        one = after(("add", "b", "a0"), ("unlet", *premise(FRAME, "t ; t <= t")), ("name", "two", U), ("take", "r", "x", "w"))
        self.assertEqual(merged(ELDER, one, ELDER), one)
        self.assertEqual(merged(ELDER, ELDER, one), one)
        self.assertEqual(merged(ELDER, ELDER, ELDER), ELDER)
        self.assertEqual(merged(ELDER, one, one), one)
        self.assertEqual(merged(one, ELDER, ELDER), ELDER)

    def test_both_did_the_same(self):
        deeds = (("add", "a", "q"), ("put", "t", "z", "z"), ("take", "r", "x", "w"), ("leave", "b", "v"), ("let", U, U),
                 ("unlet", R, R), ("name", "one", T), ("name", "four", T), ("unname", "two"))
        one, other = after(*deeds, ("name", "three", U)), after(*deeds, ("put", "t", "z", "y"), ("unlet", *premise(FRAME, "t ; t <= t")))
        right = after(*deeds, ("name", "three", U), ("put", "t", "z", "y"), ("unlet", *premise(FRAME, "t ; t <= t")))
        self.assertEqual(clashes(ELDER, one, other), [])
        self.assertEqual(merged(ELDER, one, other), right)

    def test_views(self):
        def found(name, *terms):
            states = [after(("unname", "one"), ("unname", "two"), ("unname", "three"), *[("name", name, term)] * (term is not None))
                      for term in terms]
            spots = self.unchanged(clashes, *states)
            if spots:
                self.fails(Clash, {"spots": tuple(spots)}, merged, *states)
                return spots
            return dict(merged(*states)[2]).get(name)
        for old, first, second, right in [
                (R, R, S, S), (R, S, R, S), (R, S, S, S), (R, None, R, None), (R, R, None, None), (R, None, None, None),
                (None, R, None, R), (None, None, R, R), (None, R, R, R), (R, R, R, R), (None, None, None, None),
                (R, S, T, [("view", "v")]), (R, None, S, [("view", "v")]), (R, S, None, [("view", "v")]),
                (None, R, S, [("view", "v")]), (R, ("joined", R, R), S, [("view", "v")])]:
            self.assertEqual(found("v", old, first, second), right)

    def test_things_that_are_left_and_used(self):
        one, other = after(("leave", "a", "z")), after(("put", "t", "z", "z"), ("put", "r", "z", "v"))
        self.assertEqual(self.unchanged(clashes, ELDER, one, other), [("thing", "a", "z")])
        self.assertEqual(clashes(ELDER, other, one), [("thing", "a", "z")])
        self.fails(Clash, {"spots": (("thing", "a", "z"),)}, merged, ELDER, one, other)
        # On both ends, by sorts of the frame and then ascending; views come last.
        one = after(("leave", "a", "z"), ("leave", "a", "y"), ("leave", "b", "v"), ("name", "two", T), ("unname", "one"))
        other = after(("put", "r", "z", "v"), ("put", "t", "x", "z"), ("put", "s", "w", "y"), ("put", "t", "y", "z"),
                      ("name", "two", U), ("name", "one", T))
        spots = [("thing", "a", "y"), ("thing", "a", "z"), ("thing", "b", "v"), ("view", "one"), ("view", "two")]
        self.assertEqual(clashes(ELDER, one, other), spots)
        self.assertEqual(clashes(ELDER, other, one), spots)
        self.fails(Clash, {"spots": tuple(spots)}, merged, ELDER, other, one)
        self.told_anew(clashes, ELDER, one, other)

    def test_order_of_sorts(self):
        frame = Frame(["b", "a"], [("r", "a", "b")], [])
        elder = state_of([], {"b": ["y2", "y10"], "a": ["x"]}, {}, {}, frame)
        one = edited(elder, ("all", (("leave", "a", "x"), ("leave", "b", "y2"), ("leave", "b", "y10"))))
        other = edited(elder, ("all", (("put", "r", "x", "y2"), ("put", "r", "x", "y10"))))
        self.assertEqual(clashes(elder, one, other), [("thing", "b", "y10"), ("thing", "b", "y2"), ("thing", "a", "x")])

    def test_the_same_word_of_two_sorts(self):
        elder = state_of([], {"a": ["x"], "b": ["x"]}, {})
        one, other = edited(elder, ("leave", "b", "x")), edited(elder, ("put", "t", "x", "x"))
        self.assertEqual(clashes(elder, one, other), [])
        self.assertEqual(merged(elder, one, other), state_of([], {"a": ["x"], "b": []}, {"t": [("x", "x")]}))
        other = edited(elder, ("put", "u", "x", "x"))
        self.assertEqual(clashes(elder, one, other), [("thing", "b", "x")])

    def test_left_and_added_again(self):
        # The thing x is left with its pairs and added anew on the one side: it is there, and its pairs are not.
        one = after(("leave", "a", "x"), ("add", "a", "x"))
        other = after(("put", "t", "z", "z"))
        made = merged(ELDER, one, other)
        self.assertEqual(made[1].relation("t").pairs(), [("z", "z")])
        self.assertEqual(made[1].things("a"), ["x", "y", "z"])
        # A thing that both sides add is there once.
        one, other = after(("add", "a", "q"), ("put", "t", "q", "q")), after(("add", "a", "q"))
        self.assertEqual(merged(ELDER, one, other), one)

    def test_broken(self):
        elder = state_of(["t ; t <= t"], {"a": ["x", "y", "z"], "b": []}, {})
        one, other = edited(elder, ("put", "t", "x", "y")), edited(elder, ("put", "t", "y", "z"))
        self.assertEqual(clashes(elder, one, other), [])
        for some, others in ((one, other), (other, one)):
            self.fails(Broken, {"members": ("premise", 0, "x", "z")}, merged, elder, some, others)
        # A premise of the one side and a pair of the other one; in the merged book it is the second one.
        one, other = edited(elder, ("let", T, ("same", "a"))), edited(elder, ("put", "t", "z", "x"))
        self.fails(Broken, {"members": ("premise", 1, "z", "x")}, merged, elder, one, other)
        total = state_of([], {"a": [], "b": ["w"]}, {}, {}, ON)
        one = edited(total, ("leave", "b", "w"))
        other = edited(total, ("all", (("add", "a", "x"), ("add", "b", "v"), ("put", "r", "x", "v"))))
        self.assertEqual(merged(total, one, other)[1].told()[0], {"a": ["x"], "b": ["v"]})
        elder = state_of([], {"a": ["x"], "b": ["w", "v"]}, {"r": [("x", "w"), ("x", "v")]}, {}, ON)
        one, other = edited(elder, ("leave", "b", "w")), edited(elder, ("leave", "b", "v"))
        self.fails(Broken, {"members": ("total", "r", "on", "x")}, merged, elder, one, other)

    def test_clash_before_broken(self):
        elder = state_of(["t ; t <= t"], {"a": ["x", "y", "z"], "b": []}, {}, {"v": T})
        one = edited(elder, ("all", (("put", "t", "x", "y"), ("name", "v", R))))
        other = edited(elder, ("all", (("put", "t", "y", "z"), ("name", "v", S))))
        self.fails(Clash, {"spots": (("view", "v"),)}, merged, elder, one, other)

    def test_mixed_frames(self):
        total = in_order(Book(ON, []), World(ON, {"a": [], "b": []}, {"r": [], "s": [], "t": [], "u": []}), {})
        clashing = [after(("name", "one", term)) for term in (S, T)]
        for call in (clashes, merged):
            for states in itertools.product((ELDER, total), repeat=3):
                if len({state is total for state in states}) == 2:
                    self.fails(MixedFrames, {}, call, *states)
            self.fails(MixedFrames, {}, call, total, *clashing)
        self.assertEqual(merged(total, total, total), total)

    def test_worlds_without_things(self):
        frame = Frame([], [], [])
        empty = in_order(Book(frame, []), World(frame, {}, {}), {})
        self.assertEqual(clashes(empty, empty, empty), [])
        self.assertEqual(merged(empty, empty, empty), empty)

    def test_as_it_is_meant(self):
        chance = seeded(272)
        seen = {}
        for _ in range(300):
            elder = chance_state(chance)
            states = []
            for _ in range(2):
                state = elder
                for _ in range(chance.randint(0, 5)):
                    try:
                        state = edited(state, chance_deed(chance, state))
                    except (PairError, NameMissing):
                        pass
                states.append(state)
            keys, spots = merge_by_keys(elder, *states)
            self.assertEqual(clashes(elder, *states), spots)
            self.assertEqual(clashes(elder, *states[::-1]), spots)
            results = []
            for one, other in (states, states[::-1]):
                try:
                    results.append(merged(elder, one, other))
                except Clash as error:
                    results.append(("clash", error.spots))
                except Broken as error:
                    results.append(("broken", error.members))
            self.assertEqual(results[0], results[1])
            seen[results[0][0] if isinstance(results[0][0], str) else "state"] = True
            if spots:
                self.assertEqual(results[0], ("clash", tuple(spots)))
            elif results[0][0] != "broken":
                self.assertEqual(keys_of(results[0]), keys)
                self.assertTrue(obeys(*results[0][:2]))
        self.assertEqual(sorted(seen), ["broken", "clash", "state"])


if __name__ == "__main__":
    unittest.main()
