"""Texts of deeds and of stores (S9.9, S9.10)."""

import random
import unittest

from pairlaws.books import Book
from pairlaws.errors import BadText, NameMissing, PairError
from pairlaws.frames import Frame
from pairlaws.stores import Store
from pairlaws.storetexts import read_deed, read_store, write_deed, write_store
from pairlaws.worlds import World
from tests.casesupport import seeded
from tests.storesupport import ON, chance_deed, chance_state, state_of
from tests.support import Case, written
from tests.termsupport import FRAME, R, S, T, chance_terms
from tests.test_branches import woven_store
from tests.test_stores import everything, full_store, new_store

RS = ("then", R, S)
DEEDS = [
    (("put", "r", "x", "w"), "put r x w"), (("take", "q", "x9", "abcdefghijkl"), "take q x9 abcdefghijkl"),
    (("add", "a", "x"), "add a x"), (("leave", "sort", "x"), "leave sort x"), (("name", "v", ("joined", RS, T)), "name v r ; s | t"),
    (("name", "all", ("same", "a")), "name all 1[a]"), (("name", "let", ("cut", ("joined", T, T), T)), "name let (t | t) & t"),
    (("unname", "name"), "unname name"), (("let", RS, T), "let r ; s <= t"),
    (("unlet", ("cut", T, ("turned", T)), ("none", "a", "a")), "unlet t & t' <= 0[a a]"),
    # What Book does not accept is a deed nevertheless.
    (("let", R, S), "let r <= s"), (("let", ("rest", RS), RS), "let ~(r ; s) <= r ; s"),
    (("all", ()), "all"), (("all", (("add", "a", "x"),)), "all add a x"),
    (("all", (("put", "r", "x", "w"), ("name", "v", RS), ("let", T, T), ("unname", "v"))), "all put r x w, name v r ; s, let t <= t, unname v")]
NO_DEEDS = [
    "", " ", "a", "put", "put r", "put r x", "put r x w v", "put r x w ", " put r x w", "put  r x w", "put r  x w", "Put r x w", "put r x W",
    "put r x abcdefghijklm", "put r 1 w", "put R x w", "take r x", "add a", "add a x y", "add a 1", "add a x,", "leave", "leave a", "leave a ",
    "name", "name v", "name v ", "name V r", "name 1 r", "name v q", "name v R", "name v (r)", "name v r;s", "name v r ; r", "name v r  ; s",
    "name v (r ; s) | t", "name v r ", "name v  r", "name v 1[r]", "name v r <= r", "name v ~~", "unname", "unname v w", "unname V", "unname ",
    "let", "let r", "let r <= ", "let  <= r", "let r <= r <= r", "let r<= r", "let r <=r", "let (r) <= r", "let r <= (r)", "let q <= r",
    "let r <= q", "let r & s <= r", "let r =< r", "let r  <= r", "let r <=  r", "unlet", "unlet r", "unlet r < r", "unlet r <= q", "merge 0", "merge",
    "all ", "all  ", "all put", "all all", "all add a x,", "all add a x, ", "all add a x,add a y", "all add a x , add a y", "all , add a x",
    "all add a x,  add a y", "all add a x, all", "all all add a x", "all  add a x", "All", "all, add a x", "all add a x, merge 0", "alladd a x",
    "put r x w\n", "add a x\n", "name v r\n", "unname v, unname w", "name v r, name w r", "thing a x", "here main", "rest r", "name v all"]


class DeedTexts(Case):
    def test_examples(self):
        for deed, text in DEEDS:
            self.assertEqual(self.unchanged(write_deed, deed), text)
            self.assertEqual(written(self.unchanged(read_deed, FRAME, text)), written(deed))

    def test_no_deeds(self):
        for text in NO_DEEDS:
            self.fails(BadText, {"place": 0}, read_deed, FRAME, text)

    def test_terms_of_the_frame(self):
        self.fails(BadText, {"place": 0}, read_deed, ON, "name v closed ; r")
        frame = Frame(["c"], [("z", "c", "c")], [])
        self.fails(BadText, {"place": 0}, read_deed, frame, "name v r ; s")
        self.assertEqual(read_deed(frame, "name v z*"), ("name", "v", ("walked", ("letter", "z"))))
        # Words need not occur in the frame.
        self.assertEqual(read_deed(frame, "put r x w"), ("put", "r", "x", "w"))

    def test_terms_of_any_form(self):
        for _, term in chance_terms(80, 6, 301):
            for deed in (("name", "v", term), ("let", term, ("rest", term)), ("all", (("unlet", term, T), ("name", "w", term)))):
                self.assertEqual(read_deed(FRAME, write_deed(deed)), deed)

    def test_chance_deeds(self):
        chance = seeded(302)
        for _ in range(200):
            deed = chance_deed(chance, chance_state(chance))
            self.assertEqual(read_deed(FRAME, write_deed(deed)), deed)

    def test_changed_texts(self):
        # Whatever is read is written as the same text.
        chance = seeded(303)
        for _ in range(400):
            text = chance.choice(DEEDS)[1]
            at = chance.randrange(len(text))
            text = text[:at] + chance.choice(["", " ", "a", "r", ",", "1", "(", ")", "~", "'", " <= "]) + text[at + chance.randint(0, 2):]
            try:
                deed = read_deed(FRAME, text)
            except BadText as error:
                self.assertEqual(error.place, 0)
            else:
                self.assertEqual(write_deed(deed), text)

    def test_long_texts(self):
        text = "name v " + "~" * 300 + "r"
        self.assertEqual(write_deed(read_deed(FRAME, text)), text)
        self.fails(BadText, {"place": 0}, read_deed, FRAME, "name v " + "(" * 200 + "r" + ")" * 200)


START = """thing a x
thing a y
thing b v
thing b w
pair r x v
pair r x w
pair r y w
pair t x y
let r ; r' & t <= 9[a a]
let r <= 9[a b]
let t ; t <= t
view one r
view two t ; r"""
LOG = """1 0 put r y v
2 1 name three t | t'
3 0 all add a z, put r z v
4 3 unname one
5 2 merge 4
6 3 all"""
ENDS = """branch main 2 0 1 2 5
branch side 1 0 3 4
branch b3 0 6
here side"""
ROWS = START.split("\n") + LOG.split("\n") + ENDS.split("\n")
FIRST_OF_LOG, FIRST_BRANCH = 13, 19


def start_of(frame, text):
    """The store whose text has these rows of state 0."""
    return read_store(frame, text + "\nbranch main 0 0\nhere main")


class StoreTexts(Case):
    def test_example(self):
        store = read_store(FRAME, "\n".join(ROWS))
        self.assertEqual(write_store(store), "\n".join(ROWS))
        self.assertEqual(store.state(0), state_of(
            ["r <= 9[a b]", "r ; r' & t <= 9[a a]", "t ; t <= t"], {"a": ["x", "y"], "b": ["v", "w"]},
            {"r": [("x", "v"), ("x", "w"), ("y", "w")], "t": [("x", "y")]}, {"one": R, "two": ("then", T, R)}))
        self.assertEqual(store.log(), [
            (0, ("put", "r", "y", "v")), (1, ("name", "three", ("joined", T, ("turned", T)))),
            (0, ("all", (("add", "a", "z"), ("put", "r", "z", "v")))), (3, ("unname", "one")), (2, ("merge", 4)), (3, ("all", ()))])
        self.assertEqual([(name, store.trail(name), store.mark(name)) for name in store.branches()], [
            ("main", [0, 1, 2, 5], 2), ("side", [0, 3, 4], 1), ("b3", [6], 0)])
        self.assertEqual((store.here(), store.present(), len(store)), ("side", 3, 7))
        self.assertEqual([name for name, _ in store.state(5)[2]], ["three", "two"])

    def test_state_0_alone(self):
        frame = Frame([], [], [])
        store = Store(Book(frame, []), World(frame, {}, {}), {})
        self.assertEqual(self.unchanged(write_store, store), "branch main 0 0\nhere main")
        self.assertIs(read_store(frame, "branch main 0 0\nhere main") == store, True)
        self.assertEqual(write_store(new_store()), """thing a x
thing a y
thing a z
thing b v
thing b w
pair r x w
pair t x y
let r <= r
let t ; t <= t
view one r
view two r ; s
branch main 0 0
here main""")

    def test_order_of_state_0(self):
        frame = Frame(["b", "a"], [("s", "a", "b"), ("r", "b", "b")], [])
        state = state_of(["s <= s", "r <= r", "r & r <= r"], {"b": ["y2", "y10"], "a": ["x"]},
                         {"s": [("x", "y2")], "r": [("y2", "y10"), ("y10", "y2"), ("y10", "y10")]},
                         {"w2": ("letter", "s"), "w10": ("letter", "r")}, frame)
        store = Store(state[0], state[1], dict(state[2]))
        self.assertEqual(write_store(store), """thing b y10
thing b y2
thing a x
pair s x y2
pair r y10 y10
pair r y10 y2
pair r y2 y10
let r & r <= r
let r <= r
let s <= s
view w10 r
view w2 s
branch main 0 0
here main""")
        self.assertIs(read_store(frame, write_store(store)) == store, True)

    def test_there_and_back(self):
        stores = [new_store(), woven_store(), full_store()]
        stores[2].undo()
        chance = seeded(304)
        for _ in range(20):
            state = chance_state(chance, chance.choice((FRAME, ON)))
            store = Store(state[0], state[1], dict(state[2]))
            for _ in range(30):
                try:
                    step = chance.choice(["do"] * 6 + ["undo", "again", "branch", "go", "merge"])
                    if step == "do":
                        store.do(chance_deed(chance, store.now()))
                    elif step in ("undo", "again"):
                        store.undo() if step == "undo" else store.again()
                    elif step == "branch":
                        store.branch(f"b{chance.randrange(6)}")
                    else:
                        name = chance.choice(store.branches())
                        store.go(name) if step == "go" else store.merge(name)
                except (PairError, NameMissing):
                    pass
            stores.append(store)
        for store in stores:
            before = everything(store)
            text = write_store(store)
            found = read_store(store.frame(), text)
            self.assertIs(found == store, True)
            self.assertEqual(everything(found), before)
            self.assertEqual(write_store(found), text)
            self.assertEqual(everything(store), before)

    def test_a_store_that_was_read_goes_on(self):
        store = read_store(FRAME, "\n".join(ROWS))
        self.assertEqual(store.do(("unname", "two")), 7)
        self.assertEqual((store.trail("side"), store.log()[6], store.undo()), ([0, 3, 7], (3, ("unname", "two")), 3))
        self.assertEqual([store.go("main"), store.again()], [2, 5])


class WrongRows(Case):
    def wrong(self, rows, number, frame=FRAME):
        self.fails(BadText, {"place": number}, read_store, frame, "\n".join(rows))

    def changed(self, number, *rows):
        """The text with other rows in the place of one is wrong at this one."""
        self.wrong(ROWS[:number] + list(rows) + ROWS[number + 1:], number)

    def put(self, number, row):
        """The text with one more row is wrong at this one."""
        self.wrong(ROWS[:number] + [row] + ROWS[number:], number)

    def test_no_here(self):
        for count in range(len(ROWS)):
            self.wrong(ROWS[:count], count if count else 0)
        self.fails(BadText, {"place": 0}, read_store, FRAME, "")
        self.wrong(ROWS[:-1] + [""], len(ROWS) - 1)

    def test_nothing_follows(self):
        for row in ("", " ", "here side", "here main", "branch b4 0 0", "7 0 all", "thing b x", "x"):
            self.wrong(ROWS + [row], len(ROWS))
            self.wrong(ROWS + [row, row], len(ROWS))

    def test_forms(self):
        for number in range(len(ROWS)):
            for row in ("", " ", "x", "things a x", "Thing a x", "thing", "pair", "let", "view", "log", "branch", "here", "merge 0", "log 0 all",
                        "-1 0 all", "1.0 0 all", "0x1 0 all", "state a", "\u00b2 0 all", "put r x w", "name v r", "#"):
                self.put(number, row)
            row = ROWS[number]
            for changed in (row + " ", " " + row, row + "\r", row.replace(" ", "  ", 1), row.upper(), row.replace(" ", "", 1), row + " q",
                            row.replace(" ", "\t", 1), row[:-1] + "A"):
                self.changed(number, changed)

    def test_order_of_kinds(self):
        firsts = [("thing b x", 4), ("pair u w w", 8), ("let u <= u", 11), ("view u u", 13), ("7 0 all", 19), ("branch b4 0 0", 22)]
        for at, (row, place) in enumerate(firsts):
            # Right at the end of its own kind, if all before is there; wrong behind a row of a later kind.
            if row != "7 0 all":
                read_store(FRAME, "\n".join(ROWS[:place] + [row] + ROWS[place:]))
            for _, later in firsts[at + 1:]:
                self.put(later, row)
        self.put(FIRST_BRANCH + 1, "7 0 all")
        self.wrong(ROWS[:FIRST_BRANCH] + ["here main"], FIRST_BRANCH)
        self.wrong(START.split("\n") + ["here main"], FIRST_OF_LOG)
        self.wrong(["here main"], 0)

    def test_things(self):
        for row in ("thing c x", "thing r x", "thing a 1", "thing a X", "thing a abcdefghijklm", "thing a", "thing a x y", "thing a ", "thing  x"):
            self.changed(0, row)
        self.changed(1, "thing a x")
        self.changed(1, "thing a a")
        self.put(4, "thing b w")
        self.put(4, "thing b a")
        self.put(4, "thing a z")
        self.put(3, "thing a z")
        read_store(FRAME, "\n".join(ROWS[:2] + ["thing a yy"] + ROWS[2:]))

    def test_pairs(self):
        for row in ("pair q x v", "pair a x v", "pair r z v", "pair r v v", "pair r x x", "pair r x y", "pair r x", "pair r x v v", "pair r", "pair r x "):
            self.changed(4, row)
        self.changed(5, "pair r x v")
        self.changed(6, "pair r x w")
        self.changed(6, "pair r x v")
        self.put(7, "pair r x w")
        self.put(7, "pair r y v")
        self.put(8, "pair r y w")
        self.put(8, "pair t x x")
        self.put(8, "pair s w x")
        read_store(FRAME, "\n".join(ROWS[:7] + ["pair s w x"] + ROWS[7:]))

    def test_premises(self):
        for row in ("let r", "let r <= s", "let q <= r", "let r <= q", "let (r) <= r", "let ~(r ; s) <= t", "let t <= r ; s", "let t <= t+", "let r <= r <= r",
                    "let r ; r <= r", "let  <= r", "let r <= ", "let r<= r", "let r <= 1[a]", "let ~t* <= t", "let 1[c] <= t"):
            self.changed(8, row)
        self.changed(9, "let r & r <= r")
        self.changed(9, ROWS[8])
        self.put(10, ROWS[9])
        self.put(10, "let r ; s <= 9[a a]")
        self.put(11, "let t ; t <= 2[a]")
        self.put(11, "let t & 0[a a] <= t")
        read_store(FRAME, "\n".join(ROWS[:10] + ["let r <= r"] + ROWS[10:]))
        read_store(FRAME, "\n".join(ROWS[:11] + ["let t <= t"] + ROWS[11:]))

    def test_views(self):
        for row in ("view one", "view one ", "view One r", "view 1 r", "view one q", "view one (r)", "view one r ; r", "view one r;s", "view  r",
                    "view abcdefghijklm r", "view r", "view one r <= r", "view one r; s"):
            self.changed(11, row)
        self.changed(12, "view one t ; r")
        self.changed(12, "view a r")
        self.put(13, "view two r")
        self.put(13, "view three r")

    def test_broken_worlds(self):
        # t ; t <= t is broken, and known to be so at the first row behind state 0.
        things = ["thing a x", "thing a y", "thing a z"]
        state = things + ["pair t x y", "pair t y z", "let t ; t <= t", "view one t"]
        for row in ("1 0 all", "1 0 put t x z", "branch main 0 0", "here main", "x", "1", "branch", ""):
            self.wrong(state + [row, "branch main 0 0", "here main"], 7)
        self.wrong(state, 7)
        self.wrong(state[:5] + ["branch main 0 0", "here x"], 6)
        read_store(FRAME, "\n".join(state[:5] + ["branch main 0 0", "here main"]))
        # Totals of the frame count, too.
        self.wrong(["thing a x", "thing b w", "branch main 0 0", "here main"], 2, ON)
        self.wrong(["thing a x", "1 0 leave a x", "branch main 0 0", "here main"], 1, ON)
        start_of(ON, "thing a x\nthing b w\npair r x w")

    def test_numbers_of_the_log(self):
        for row in ("0 0 put r y v", "2 0 put r y v", "01 0 put r y v", "1 00 put r y v", "1 1 put r y v", "1 2 put r y v", "1 7 put r y v", "1 x put r y v",
                    "1 put r y v", "1", "1 0", "1 0 ", "1 0  put r y v", "1  0 put r y v", "0001 0 all", "1 0000 all", "1 -0 all", "+1 0 all", "1 0 1"):
            self.changed(FIRST_OF_LOG, row)
        self.changed(FIRST_OF_LOG + 1, "1 0 all")
        self.changed(FIRST_OF_LOG + 1, "3 0 all")
        self.changed(FIRST_OF_LOG + 5, "6 6 all")

    def test_deeds_of_the_log(self):
        for text in ("put r y w v", "put r q v", "put q y v", "take r y v", "take u v v", "add a x", "add c x", "add a X", "leave a q", "name v q", "name v (r)",
                     "name v r;s", "unname q", "let t ; t <= t", "let r <= s", "let t <= r ; s", "unlet r <= r", "put t y x", "let t <= 0[a a]", "all put r q v",
                     "all put t y x, put t x x", "all all", "all ", "all add a q, add a q", "let ~(r ; s) <= t", "x", "merge", "all merge 0", "unlet t ; t <= (t)"):
            self.changed(FIRST_OF_LOG, f"1 0 {text}")
        # The deed is done at the state first, not at the one before it.
        self.changed(FIRST_OF_LOG + 3, "4 2 leave a z")
        self.changed(FIRST_OF_LOG + 3, "4 0 put r z v")

    def test_merges(self):
        for text in ("merge", "merge ", "merge x", "merge 04", "merge 4 4", "merge 5", "merge 6", "merge 200", "merge 1000", "merge -1", "merge  4", "merge 4 ",
                     "merge 2", "merge 1", "merge 0", "merge main"):
            self.changed(FIRST_OF_LOG + 4, f"5 2 {text}")
        self.changed(FIRST_OF_LOG, "1 0 merge 0")
        self.changed(FIRST_OF_LOG + 3, "4 3 merge 0")
        state = ["thing a x", "thing a y", "thing a z", "let t ; t <= t", "view v t"]
        ends = ["branch main 0 0", "here main"]
        # A clash of a view, a clash of a thing, a broken premise.
        for one, other in (("name v t'", "name v t+"), ("leave a x", "put t x x"), ("put t x y", "put t y z")):
            rows = state + [f"1 0 {one}", f"2 0 {other}", "3 1 merge 2"] + ends
            self.wrong(rows, 7)
            self.wrong(rows[:7] + ["3 2 merge 1"] + ends, 7)
            read_store(FRAME, "\n".join(rows[:7] + ends))
        good = state + ["1 0 put t x y", "2 0 put t x z", "3 1 merge 2", "4 0 merge 3"] + ends
        self.assertEqual(len(read_store(FRAME, "\n".join(good)).state(3)[1].relation("t")), 2)
        # An elder by a merge is an elder; so is the state itself.
        for row in ("4 3 merge 2", "4 3 merge 3", "4 3 merge 1", "4 3 merge 0"):
            self.wrong(good[:8] + [row] + ends, 8)

    def test_200_states(self):
        store = full_store()
        rows = write_store(store).split("\n")
        self.assertEqual(len(read_store(FRAME, "\n".join(rows))), 200)
        at = len(rows) - 2
        self.wrong(rows[:at] + ["200 199 all"] + rows[at:], at)
        self.wrong(rows[:at] + ["200 0 all"] + rows[at:], at)

    def test_branches(self):
        for row in ("branch main", "branch main 0", "branch main 0 ", "branch main 0 0 2", "branch main 0 1", "branch main 0 3 4", "branch main 1 0", "branch main 4 0 1 2 5",
                    "branch main 00 0", "branch main 0 00", "branch main 0 0 01", "branch main 0 0 7", "branch main 0 0 1 1", "branch main 0 0 0", "branch main -1 0",
                    "branch main 0 0 1 0", "branch main 0 0 1 2 4", "branch main 0 0 1 2 5 6", "branch main 0 0 4", "branch main x 0", "branch main 0 x", "branch main 0 0000",
                    "branch main 0000 0", "branch side 0 0", "branch Main 0 0", "branch  0 0", "branch 0 0", "branch main  0 0", "branch a b 0 0", "branch main 0 1000"):
            self.changed(FIRST_BRANCH, row)
        for row in ("branch main 0 0", "branch Side 0 0", "branch s-1 0 0", "branch 1 0 0", "branch side 1 3", "branch side 0 0 5", "branch side 0 7", "branch side 0 3 4 5",
                    "branch abcdefghijklm 0 0"):
            self.changed(FIRST_BRANCH + 1, row)
        self.changed(FIRST_BRANCH + 2, "branch side 0 0")
        # Nothing comes before state 0, also not the state from which the last one came.
        self.changed(FIRST_BRANCH + 1, "branch side 0 0 3 0")
        # A merge follows the first of its states, and not the other one.
        self.changed(FIRST_BRANCH + 1, "branch side 0 0 3 4 5")
        read_store(FRAME, "\n".join(ROWS[:-2] + ["branch b3 1 3 6"] + ROWS[-1:]))
        read_store(FRAME, "\n".join(ROWS[:-2] + ["branch b3 0 4"] + ROWS[-1:]))

    def test_seven_branches(self):
        rows = ROWS[:-1] + ["branch b4 0 0", "branch b5 0 0", "branch b6 0 0"]
        self.assertEqual(len(read_store(FRAME, "\n".join(rows + ["here b6"])).branches()), 6)
        self.wrong(rows + ["branch b7 0 0", "here b6"], len(rows))

    def test_here(self):
        for row in ("here", "here ", "here q", "here Main", "here main side", "here 0", "here  main", "Here main"):
            self.changed(len(ROWS) - 1, row)
        self.assertEqual(read_store(FRAME, "\n".join(ROWS[:-1] + ["here b3"])).present(), 6)

    def test_other_frames(self):
        self.wrong(ROWS, 0, Frame([], [], []))
        self.wrong(ROWS, 2, Frame(["a"], [("r", "a", "a"), ("t", "a", "a")], []))
        self.wrong(ROWS, 7, Frame(["a", "b"], [("r", "a", "b"), ("u", "a", "a")], []))

    def test_first_wrong_row(self):
        rows = list(ROWS)
        for number in (20, 16, 11, 9, 5, 0):
            rows[number] = "x"
            self.wrong(rows, number)

    def test_changed_texts(self):
        # Whatever is read is written as the same text; else the rows before the wrong one begin a text that can be read.
        chance = random.Random(305)
        count = 0
        for _ in range(500):
            rows = list(ROWS)
            at = chance.randrange(len(rows))
            kind = chance.choice(["drop", "swap", "sign", "double"])
            if kind == "drop":
                del rows[at]
            elif kind == "double":
                rows.insert(at, chance.choice(rows))
            elif kind == "swap":
                other = chance.randrange(len(rows))
                rows[at], rows[other] = rows[other], rows[at]
            else:
                place = chance.randrange(len(rows[at]) + 1)
                rows[at] = rows[at][:place] + chance.choice(["", "x", "0", " ", "r", "1"]) + rows[at][place + chance.randint(0, 1):]
            try:
                store = read_store(FRAME, "\n".join(rows))
            except BadText as error:
                self.assertLessEqual(error.place, len(rows))
                self.fails(BadText, {"place": error.place}, read_store, FRAME, "\n".join(rows[:error.place]))
            else:
                count += 1
                self.assertEqual(write_store(store), "\n".join(rows))
        self.assertGreater(count, 20)


if __name__ == "__main__":
    unittest.main()
