"""States in order, deeds, deeds between states, and how views differ (S9.1 to S9.4)."""

import unittest

from pairlaws.books import Book, first_broken, obeys
from pairlaws.deeds import back, deed_between, differences, edited, in_order
from pairlaws.errors import (BadDeed, BadName, BadTerm, Broken, MixedEnds, MixedFrames, NameMissing, NotFlat, NotKept,
                             NotTold, PairError, TwiceTold, UnknownName)
from pairlaws.frames import Frame
from pairlaws.termtexts import read_term, write_term
from pairlaws.worlds import World
from pairlaws.worths import worth
from tests.casesupport import seeded
from tests.storesupport import chance_deed, chance_state, state_of
from tests.support import NOT_WORDS, ODD_VALUES, Case, written
from tests.termsupport import FRAME, R, S, T, U, nested

RS = ("then", R, S)
THROUGH = (("then", T, T), T)
WORLD = World(FRAME, {"a": ["z", "x", "y"], "b": ["x", "w"]}, {
    "r": [("x", "w"), ("y", "x")], "s": [("x", "z")], "t": [("x", "y"), ("y", "z"), ("x", "z")], "u": []})
BOOK = Book(FRAME, [THROUGH, (RS, ("all", "a", "a")), THROUGH, (R, R)])
STATE = in_order(BOOK, WORLD, {"way": RS, "all": R, "d0": ("rest", T)})
TOTAL = Frame(["a", "b"], [("r", "a", "b")], [("r", "on")])


class InOrder(Case):
    def test_example(self):
        book, world, views = self.unchanged(in_order, BOOK, WORLD, {"way": RS, "all": R, "d0": ("rest", T)})
        self.assertEqual(book.premises(), [(RS, ("all", "a", "a")), (R, R), THROUGH])
        self.assertEqual(world.told(), ({"a": ["x", "y", "z"], "b": ["w", "x"]}, {
            "r": [("x", "w"), ("y", "x")], "s": [("x", "z")], "t": [("x", "y"), ("x", "z"), ("y", "z")], "u": []}))
        self.assertEqual(views, (("all", R), ("d0", ("rest", T)), ("way", RS)))
        self.assertEqual(type(STATE), tuple)
        self.assertEqual(type(views), tuple)
        self.assertEqual(in_order(book, world, dict(views)), (book, world, views))

    def test_premises_by_their_whole_texts(self):
        frame = Frame(["x"], [(name, "x", "x") for name in ("b", "a", "c", "a0")], [])
        texts = ["a <= b", "a & b <= c", "a ; b <= c", "a <= a", "a' <= c", "a* <= b", "a+ <= b", "a0 <= a", "a <= b & c",
                 "a & b <= b", "~a <= b", "1[x] <= a", "2[x] <= b", "0[x x] <= a", "9[x x] <= 9[x x]", "(a | b) ; c <= a", "b <= a"]
        premises = [tuple([read_term(frame, part) for part in text.split(" <= ")]) for text in texts]
        world = World(frame, {"x": []}, {name: [] for name in ("a", "b", "c", "a0")})
        found = in_order(Book(frame, premises), world, {})[0].premises()
        self.assertEqual([f"{write_term(p)} <= {write_term(q)}" for p, q in found], sorted(texts))
        self.assertLess(texts[1], texts[0])
        self.assertEqual(found, in_order(Book(frame, premises[::-1]), world, {})[0].premises())
        some = [(read_term(frame, "a"), read_term(frame, "b")), (read_term(frame, "a & b"), read_term(frame, "c"))]
        self.assertEqual(in_order(Book(frame, some), world, {})[0].premises(), some[::-1])

    def test_names_and_things_by_their_signs(self):
        frame = Frame(["b", "a"], [], [])
        world = World(frame, {"b": ["b2", "b10", "b", "aa", "b1"], "a": ["z", "y"]}, {})
        names = ["v2", "v10", "v", "a"]
        state = in_order(Book(frame, []), world, {name: ("same", "b") for name in names})
        self.assertEqual(state[1].told()[0], {"b": ["aa", "b", "b1", "b10", "b2"], "a": ["y", "z"]})
        self.assertEqual([name for name, _ in state[2]], ["a", "v", "v10", "v2"])

    def test_errors(self):
        other = World(Frame(["a"], [], []), {"a": []}, {})
        self.fails(MixedFrames, {}, in_order, BOOK, other, {1: 0})
        for name in [value for value in NOT_WORDS if not isinstance(value, (list, dict))]:
            self.fails(BadName, {"name": name}, in_order, BOOK, WORLD, {"v": 0, name: R, "B": 0})
        self.fails(BadName, {"name": 3}, in_order, BOOK, WORLD, {"v": R, 3: 0, "B": 0})
        for value in ODD_VALUES:
            self.fails(BadTerm, {"path": ()}, in_order, BOOK, WORLD, {"v": R, "b": value, "a": ("closed", 0)})
        broken = Book(FRAME, [(R, ("none", "a", "b")), (("all", "b", "b"), U)])
        self.fails(BadTerm, {"path": (1, 0)}, in_order, broken, WORLD, {"v": ("cut", R, ("turned", 0)), "a": 0})

    def test_broken(self):
        # In order the premise on u is the first one, and w is the first thing of b.
        book = Book(FRAME, [(R, ("none", "a", "b")), (("all", "b", "b"), U)])
        self.assertEqual(first_broken(book, WORLD), ("premise", 0, "x", "w"))
        self.fails(Broken, {"members": ("premise", 0, "w", "w")}, in_order, book, WORLD, {})
        world = World(TOTAL, {"a": ["y", "x"], "b": ["u"]}, {"r": []})
        self.fails(Broken, {"members": ("total", "r", "on", "x")}, in_order, Book(TOTAL, []), world, {})

    def test_nothing(self):
        frame = Frame([], [], [])
        state = in_order(Book(frame, []), World(frame, {}, {}), {})
        self.assertEqual(state, (Book(frame, []), World(frame, {}, {}), ()))


class SingleDeeds(Case):
    def told(self, deed, start=STATE):
        book, world, views = self.unchanged(edited, start, deed)
        self.assertEqual(in_order(book, world, dict(views)), (book, world, views))
        return book, world, views

    def test_pairs(self):
        book, world, views = self.told(("put", "r", "z", "x"))
        self.assertEqual((book, views), (STATE[0], STATE[2]))
        self.assertEqual(world.relation("r").pairs(), [("x", "w"), ("y", "x"), ("z", "x")])
        self.assertEqual(self.told(("put", "r", "x", "w")), STATE)
        book, world, views = self.told(("take", "r", "x", "w"))
        self.assertEqual(world.relation("r").pairs(), [("y", "x")])
        self.assertEqual((world.relation("t"), book, views), (STATE[1].relation("t"), STATE[0], STATE[2]))

    def test_things(self):
        book, world, views = self.told(("add", "a", "xx"))
        self.assertEqual(world.things("a"), ["x", "xx", "y", "z"])
        self.assertEqual(world.told()[1], STATE[1].told()[1])
        self.assertEqual((book, views), (STATE[0], STATE[2]))
        self.assertEqual(self.told(("add", "b", "a0"))[1].things("b"), ["a0", "w", "x"])
        world = self.told(("leave", "a", "x"))[1]
        self.assertEqual(world.told(), ({"a": ["y", "z"], "b": ["w", "x"]},
                                        {"r": [("y", "x")], "s": [("x", "z")], "t": [("y", "z")], "u": []}))
        self.assertEqual(self.told(("leave", "b", "x"))[1].told()[1]["s"], [])

    def test_views(self):
        book, world, views = self.told(("name", "b", U))
        self.assertEqual((book, world), STATE[:2])
        self.assertEqual(views, (("all", R), ("b", U), ("d0", ("rest", T)), ("way", RS)))
        self.assertEqual(self.told(("name", "d0", R))[2], (("all", R), ("d0", R), ("way", RS)))
        self.assertEqual(self.told(("name", "way", RS)), STATE)
        self.assertEqual(self.told(("unname", "d0"))[2], (("all", R), ("way", RS)))

    def test_premises(self):
        new = (("cut", T, ("turned", T)), ("none", "a", "a"))
        book, world, views = self.told(("let", *new))
        self.assertEqual(book.premises(), [(RS, ("all", "a", "a")), (R, R), new, THROUGH])
        self.assertEqual((world, views), STATE[1:])
        self.assertEqual(self.told(("unlet", RS, ("all", "a", "a")))[0].premises(), [(R, R), THROUGH])

    def test_errors_of_pairs(self):
        for word in ("put", "take"):
            for letter in ("x", "", "a", "R"):
                self.fails(UnknownName, {"name": letter}, edited, STATE, (word, letter, "q", "q"))
            for x in ("w", "q", ""):
                self.fails(UnknownName, {"name": x}, edited, STATE, (word, "r", x, "q"))
            for y in ("y", "q", ""):
                self.fails(UnknownName, {"name": y}, edited, STATE, (word, "r", "x", y))
        self.fails(NotTold, {"name": ("r", "x", "x")}, edited, STATE, ("take", "r", "x", "x"))
        self.fails(NotTold, {"name": ("u", "w", "x")}, edited, STATE, ("take", "u", "w", "x"))

    def test_errors_of_things(self):
        for word in ("add", "leave"):
            for sort in ("c", "r", "", "A"):
                self.fails(UnknownName, {"name": sort}, edited, STATE, (word, sort, "B"))
        for thing in [value for value in NOT_WORDS if isinstance(value, str)]:
            self.fails(BadName, {"name": thing}, edited, STATE, ("add", "a", thing))
            self.fails(UnknownName, {"name": thing}, edited, STATE, ("leave", "a", thing))
        self.fails(TwiceTold, {"name": "y"}, edited, STATE, ("add", "a", "y"))
        self.fails(UnknownName, {"name": "y"}, edited, STATE, ("leave", "b", "y"))

    def test_errors_of_views(self):
        for name in [value for value in NOT_WORDS if isinstance(value, str)]:
            self.fails(BadName, {"name": name}, edited, STATE, ("name", name, 0))
            self.fails(UnknownName, {"name": name}, edited, STATE, ("unname", name))
        self.fails(UnknownName, {"name": "r"}, edited, STATE, ("unname", "r"))
        for value in ODD_VALUES:
            self.fails(BadTerm, {"path": ()}, edited, STATE, ("name", "v", value))
        self.fails(BadTerm, {"path": (0, 1)}, edited, STATE, ("name", "v", ("rest", ("then", R, None))))
        self.fails(BadTerm, {"path": (0,) * 140}, edited, STATE, ("name", "v", nested("rest", None, 140)))

    def test_errors_of_premises(self):
        for value in ODD_VALUES:
            self.fails(BadTerm, {"path": (0, 0)}, edited, STATE, ("let", value, None))
            self.fails(BadTerm, {"path": (0, 1)}, edited, STATE, ("let", R, value))
            self.fails(NotTold, {"name": (value, R)}, edited, STATE, ("unlet", value, R))
            self.fails(NotTold, {"name": (R, value)}, edited, STATE, ("unlet", R, value))
        self.fails(BadTerm, {"path": (0, 1, 0)}, edited, STATE, ("let", ("rest", RS), ("rest", 0)))
        self.fails(NotKept, {"number": 0}, edited, STATE, ("let", ("rest", RS), RS))
        self.fails(NotFlat, {"number": 0}, edited, STATE, ("let", R, RS))
        self.fails(MixedEnds, {"number": 0}, edited, STATE, ("let", R, S))
        self.fails(TwiceTold, {"name": THROUGH}, edited, STATE, ("let", *THROUGH))
        self.fails(NotTold, {"name": (T, T)}, edited, STATE, ("unlet", T, T))

    def test_broken(self):
        self.fails(Broken, {"members": ("premise", 2, "x", "x")}, edited, STATE, ("put", "t", "z", "x"))
        self.fails(Broken, {"members": ("premise", 2, "x", "z")}, edited, STATE, ("take", "t", "x", "z"))
        # The new premise stands behind that of r ; s and before that of r <= r.
        self.fails(Broken, {"members": ("premise", 1, "x", "w")}, edited, STATE, ("let", R, ("none", "a", "b")))
        state = in_order(Book(TOTAL, []), World(TOTAL, {"a": ["x"], "b": ["u"]}, {"r": [("x", "u")]}), {})
        self.fails(Broken, {"members": ("total", "r", "on", "x")}, edited, state, ("take", "r", "x", "u"))
        self.fails(Broken, {"members": ("total", "r", "on", "x")}, edited, state, ("leave", "b", "u"))
        self.fails(Broken, {"members": ("total", "r", "on", "y")}, edited, state, ("add", "a", "y"))


class BadDeeds(Case):
    FORMS = [("put", "r", "x", "w"), ("take", "r", "x", "w"), ("add", "a", "q"), ("leave", "a", "x"), ("name", "v", R),
             ("unname", "d0"), ("let", T, T), ("unlet", R, R)]

    def bad(self):
        found = ODD_VALUES + [("all",), ("all", [], []), ("all", []), ("all", {}), ("all", None), ("all", "x"), ("all", (), ()),
                              ("merge", 0), ("merge", "main"), ("held", "r", "x", "w"), (("put",), "r", "x", "w"), ("Put", "r", "x", "w")]
        for form in self.FORMS:
            found += [list(form), form[:-1], form + ("x",), form[1:], (form,)]
            for at in range(1, len(form)):
                if isinstance(form[at], str):
                    found += [form[:at] + (value,) + form[at + 1:] for value in ODD_VALUES if not isinstance(value, str)]
        return found

    def test_single_ones(self):
        for value in self.bad():
            self.fails(BadDeed, {}, edited, STATE, value)

    def test_in_all(self):
        for value in self.bad() + [("all", ())]:
            self.fails(BadDeed, {}, edited, STATE, ("all", (value,)))
        # The form comes first, whatever the deeds before would raise.
        self.fails(BadDeed, {}, edited, STATE, ("all", (("put", "x", "x", "x"), ("add", "a", "q"), ("all", ()))))
        self.fails(BadDeed, {}, edited, STATE, ("all", (("let", None, None), ("leave", "a", 0))))
        self.fails(BadDeed, {}, edited, STATE, ("all", [("add", "a", "q")]))

    def test_the_forms(self):
        for form in self.FORMS:
            if form != ("take", "r", "x", "w"):
                edited(STATE, form)
        edited(STATE, ("all", tuple(self.FORMS[2:5])))


class All(Case):
    def test_nothing(self):
        self.assertEqual(self.unchanged(edited, STATE, ("all", ())), STATE)

    def test_refused_alone(self):
        first, second = ("take", "t", "x", "z"), ("take", "t", "x", "y")
        self.fails(Broken, {"members": ("premise", 2, "x", "z")}, edited, STATE, first)
        world = self.unchanged(edited, STATE, ("all", (first, second)))[1]
        self.assertEqual(world.relation("t").pairs(), [("y", "z")])
        # Both deeds alone are refused, and together they are not.
        state = in_order(Book(FRAME, [(T, ("turned", T))]), World(FRAME, {"a": ["x", "y"], "b": []}, {
            "r": [], "s": [], "t": [], "u": []}), {})
        one, other = ("put", "t", "x", "y"), ("put", "t", "y", "x")
        self.fails(Broken, {"members": ("premise", 0, "x", "y")}, edited, state, one)
        self.fails(Broken, {"members": ("premise", 0, "y", "x")}, edited, state, other)
        self.assertEqual(len(edited(state, ("all", (one, other)))[1].relation("t")), 2)

    def test_one_after_the_other(self):
        deeds = (("add", "a", "q"), ("put", "r", "q", "w"), ("take", "r", "q", "w"), ("leave", "a", "q"), ("name", "v", R),
                 ("unname", "v"), ("let", T, T), ("unlet", T, T), ("unlet", *THROUGH), ("let", *THROUGH))
        self.assertEqual(edited(STATE, ("all", deeds)), STATE)
        state = STATE
        for deed in deeds[:7]:
            state = edited(state, deed)
        self.assertEqual(edited(STATE, ("all", deeds[:7])), state)

    def test_first_error(self):
        self.fails(UnknownName, {"name": "q"}, edited, STATE, ("all", (("put", "r", "q", "w"), ("add", "a", "q"))))
        self.fails(TwiceTold, {"name": "q"}, edited, STATE, ("all", (("add", "a", "q"), ("add", "a", "q"), ("leave", "b", "q"))))
        self.fails(NotTold, {"name": ("r", "x", "w")}, edited, STATE, ("all", (("take", "r", "x", "w"), ("take", "r", "x", "w"))))
        self.fails(NotTold, {"name": THROUGH}, edited, STATE, ("all", (("unlet", *THROUGH), ("unlet", *THROUGH))))
        self.fails(UnknownName, {"name": "x"}, edited, STATE, ("all", (("leave", "a", "x"), ("put", "r", "x", "w"))))
        self.fails(BadTerm, {"path": (1,)}, edited, STATE, ("all", (("name", "v", ("then", R, 0)), ("unname", "w"))))
        self.fails(BadTerm, {"path": (0, 0)}, edited, STATE, ("all", (("let", 0, 0), ("unname", "w"))))
        # An error of a later deed comes before what is broken at the end.
        self.fails(UnknownName, {"name": "v"}, edited, STATE, ("all", (("take", "t", "x", "z"), ("unname", "v"))))

    def test_broken_at_the_end(self):
        deeds = (("put", "t", "z", "x"), ("name", "v", R))
        self.fails(Broken, {"members": ("premise", 2, "x", "x")}, edited, STATE, ("all", deeds))
        self.fails(Broken, {"members": ("premise", 0, "a0", "w")}, edited, STATE, ("all", (
            ("let", ("all", "a", "b"), R), ("add", "a", "a0"))))


class Between(Case):
    def test_all_kinds(self):
        other = in_order(
            Book(FRAME, [(U, U), (S, S), (R, R)]),
            World(FRAME, {"a": ["b", "a", "y", "x"], "b": ["w", "q", "p"]}, {
                "r": [("x", "q"), ("b", "w")], "s": [("w", "a")], "t": [("x", "y"), ("a", "x")], "u": [("w", "w"), ("p", "w")]}),
            {"way": T, "d0": ("rest", T), "c": R, "a": S})
        self.assertEqual(self.unchanged(deed_between, STATE, other), ("all", (
            ("unlet", RS, ("all", "a", "a")), ("unlet", *THROUGH), ("unname", "all"), ("leave", "a", "z"), ("leave", "b", "x"),
            ("take", "r", "x", "w"), ("add", "a", "a"), ("add", "a", "b"), ("add", "b", "p"), ("add", "b", "q"),
            ("put", "r", "b", "w"), ("put", "r", "x", "q"), ("put", "s", "w", "a"), ("put", "t", "a", "x"),
            ("put", "u", "p", "w"), ("put", "u", "w", "w"), ("name", "a", S), ("name", "c", R), ("name", "way", T),
            ("let", S, S), ("let", U, U))))
        self.assertEqual(edited(STATE, deed_between(STATE, other)), other)
        self.assertEqual(edited(other, deed_between(other, STATE)), STATE)

    def test_nothing(self):
        self.assertEqual(deed_between(STATE, STATE), ("all", ()))
        empty = in_order(Book(TOTAL, []), World(TOTAL, {"a": [], "b": []}, {"r": []}), {})
        self.assertEqual(deed_between(empty, empty), ("all", ()))

    def test_order_by_frame(self):
        frame = Frame(["b", "a"], [("s", "a", "b"), ("r", "b", "b")], [])
        some = in_order(Book(frame, []), World(frame, {"b": [], "a": []}, {"s": [], "r": []}), {})
        other = in_order(Book(frame, []), World(frame, {"b": ["y", "x"], "a": ["v"]}, {
            "s": [("v", "y")], "r": [("y", "x"), ("x", "y"), ("x", "x")]}), {})
        self.assertEqual(deed_between(some, other)[1], (
            ("add", "b", "x"), ("add", "b", "y"), ("add", "a", "v"), ("put", "s", "v", "y"), ("put", "r", "x", "x"),
            ("put", "r", "x", "y"), ("put", "r", "y", "x")))
        self.assertEqual(deed_between(other, some)[1], (("leave", "b", "x"), ("leave", "b", "y"), ("leave", "a", "v")))

    def test_same_words_of_two_sorts(self):
        # The thing x of b is left, the thing x of a is not.
        state = state_of([], {"a": ["x"], "b": ["x"]}, {"t": [("x", "x")], "u": [("x", "x")]})
        other = state_of([], {"a": ["x"], "b": []}, {})
        self.assertEqual(deed_between(state, other)[1], (("leave", "b", "x"), ("take", "t", "x", "x")))

    def test_errors(self):
        other = in_order(Book(TOTAL, []), World(TOTAL, {"a": [], "b": []}, {"r": []}), {})
        for call in (deed_between, differences):
            self.fails(MixedFrames, {}, call, STATE, other)
            self.fails(MixedFrames, {}, call, other, STATE)

    def test_back(self):
        deed = ("all", (("leave", "a", "x"), ("unlet", *THROUGH), ("name", "way", T), ("unname", "all"), ("add", "b", "v")))
        found = self.unchanged(back, STATE, deed)
        self.assertEqual(found, ("all", (
            ("leave", "b", "v"), ("add", "a", "x"), ("put", "r", "x", "w"), ("put", "t", "x", "y"), ("put", "t", "x", "z"),
            ("name", "all", R), ("name", "way", RS), ("let", *THROUGH))))
        self.assertEqual(edited(edited(STATE, deed), found), STATE)
        self.assertEqual(back(STATE, ("all", ())), ("all", ()))
        self.assertEqual(back(STATE, ("put", "r", "x", "w")), ("all", ()))
        for value in ODD_VALUES:
            self.fails(BadDeed, {}, back, STATE, value)
        self.fails(UnknownName, {"name": "q"}, back, STATE, ("leave", "a", "q"))
        self.fails(Broken, {"members": ("premise", 2, "x", "z")}, back, STATE, ("take", "t", "x", "z"))

    def test_as_it_is_meant(self):
        chance = seeded(261)
        for _ in range(80):
            state, other = chance_state(chance), chance_state(chance)
            deed = deed_between(state, other)
            self.assertEqual(edited(state, deed), other)
            self.assertEqual(deed_between(other, other), ("all", ()))
            self.assertEqual([deed for deed in deed[1] if deed[0] == "all"], [])


class Differences(Case):
    def test_examples(self):
        other = edited(STATE, ("all", (("take", "r", "y", "x"), ("put", "r", "z", "x"), ("name", "new", S), ("unname", "d0"))))
        found = self.unchanged(differences, STATE, other)
        rest = tuple([pair for pair in worth(STATE[1], ("rest", T)).pairs()])
        self.assertEqual(found, [("all", (("z", "x"),), (("y", "x"),)), ("d0", (), rest), ("new", (("x", "z"),), ()),
                                 ("way", (("z", "z"),), (("y", "z"),))])
        self.assertEqual(differences(other, STATE), [("all", (("y", "x"),), (("z", "x"),)), ("d0", rest, ()),
                                                     ("new", (), (("x", "z"),)), ("way", (("y", "z"),), (("z", "z"),))])
        self.assertEqual(differences(STATE, STATE), [])
        self.told_anew(differences, STATE, other)

    def test_views_without_pairs_and_with_other_terms(self):
        other = edited(STATE, ("all", (("name", "none", U), ("name", "all", ("joined", R, R)), ("unlet", R, R))))
        self.assertEqual(differences(STATE, other), [])
        # The two terms of one view may have different ends; pairs are pairs of words.
        some = state_of([], {"a": ["x", "y"], "b": ["x"]}, {"t": [("x", "x"), ("x", "y")], "u": [("x", "x")]}, {"v": T})
        self.assertEqual(differences(some, edited(some, ("name", "v", U))), [("v", (), (("x", "y"),))])

    def test_as_it_is_meant(self):
        chance = seeded(262)
        for _ in range(80):
            state, other = chance_state(chance), chance_state(chance)
            right = []
            for word in sorted(set(dict(state[2])) | set(dict(other[2]))):
                pairs = [worth(one[1], dict(one[2])[word]).pairs() if word in dict(one[2]) else [] for one in (state, other)]
                if sorted(pairs[0]) != sorted(pairs[1]):
                    right.append((word, tuple([pair for pair in pairs[1] if pair not in pairs[0]]),
                                  tuple([pair for pair in pairs[0] if pair not in pairs[1]])))
            self.assertEqual(differences(state, other), right)


class ManyDeeds(Case):
    def test_states_stay_in_order(self):
        chance = seeded(263)
        kinds = {}
        for _ in range(25):
            state = chance_state(chance)
            for _ in range(20):
                deed = chance_deed(chance, state)
                before = written(state)
                try:
                    after = edited(state, deed)
                except (PairError, NameMissing) as error:
                    kinds[type(error).__name__] = True
                else:
                    kinds[deed[0]] = True
                    book, world, views = after
                    self.assertEqual(in_order(book, world, dict(views)), after)
                    self.assertIs(obeys(book, world), True)
                    self.assertEqual(edited(after, back(state, deed)), state)
                    self.assertEqual(before, written(state))
                    state = after
        for word in ("put", "take", "add", "leave", "name", "unname", "let", "unlet", "all", "Broken"):
            self.assertIn(word, kinds)


if __name__ == "__main__":
    unittest.main()
