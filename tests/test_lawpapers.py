"""Judging answers about claims (S6.7)."""

import unittest

from pairlaws.books import Book
from pairlaws.deciding import decide, decide_way
from pairlaws.frames import Frame
from pairlaws.lawpapers import judge, judge_papers, judge_world
from pairlaws.worlds import World, with_pair, with_thing
from tests.support import ODD_VALUES, SMALL_WORLD, Case
from tests.termsupport import FRAME, R, S, T

TT, RS = ("then", T, T), ("then", R, S)
BOOK = Book(FRAME, [(TT, T)])
HOLDS = (("joined", T, ("then", TT, T)), T)
FAILS = (TT, ("same", "a"))


def world(a, t, **pairs):
    return World(FRAME, {"a": a, "b": pairs.pop("b", [])}, {"r": [], "s": [], "t": t, "u": [], **pairs})


# In this world t is transitive, x is not z, and there are just as many things as the way of tt has places.
RIGHT = world(["x", "y", "z"], [("x", "y"), ("y", "z"), ("x", "z")])


class JudgePapers(Case):
    def test_right_ones(self):
        papers = decide(BOOK, HOLDS)[1]
        self.assertIs(self.unchanged(judge_papers, BOOK, HOLDS, papers), None)
        self.assertIs(judge_papers(BOOK, HOLDS, tuple(papers)), None)
        paper = ("case", ("letter", "t", 0, 1), ("held",), ("off", 0))
        self.assertIs(judge_papers(BOOK, (T, T), [paper]), None)
        self.assertIs(judge_papers(BOOK, (T, T), (paper,)), None)

    def test_not_as_many(self):
        papers = decide(BOOK, HOLDS)[1]
        for value in ODD_VALUES + [papers[:1], papers + papers, "ab", dict(enumerate(papers)), {0: papers[0], 1: papers[1]}]:
            if not isinstance(value, (list, tuple)) or len(value) != 2:
                self.assertEqual(judge_papers(BOOK, HOLDS, value), (2, (), "form"))
        self.assertEqual(judge_papers(BOOK, (T, T), ("held",)), (0, (), "form"))
        self.assertEqual(judge_papers(BOOK, (T, T), []), (1, (), "form"))

    def test_first_wrong_one(self):
        first, second = decide(BOOK, HOLDS)[1]
        self.assertEqual(judge_papers(BOOK, HOLDS, [first, None]), (1, (), "form"))
        self.assertEqual(judge_papers(BOOK, HOLDS, [None, None]), (0, (), "form"))
        self.assertEqual(judge_papers(BOOK, HOLDS, [second, first]), (0, (), "atom"))
        self.assertEqual(judge_papers(BOOK, HOLDS, [first, (*second[:3], ("held",))]), (1, (1,), "held"))
        self.assertEqual(judge_papers(BOOK, HOLDS, [first, (*second[:2], ("clash",), None)]), (1, (0,), "clash"))
        for value in ODD_VALUES:
            self.assertEqual(judge_papers(BOOK, HOLDS, (first, value)), (1, (), "form"))

    def test_papers_of_another_book(self):
        papers = decide(BOOK, HOLDS)[1]
        self.assertEqual(judge_papers(Book(FRAME, []), HOLDS, papers)[::2], (1, "broken"))


class JudgeWorld(Case):
    def judged_as(self, word, made, pair, claim=FAILS, book=BOOK):
        self.assertEqual(self.unchanged(judge_world, book, claim, made, pair), word)
        self.assertIs(judge(book, claim, ("fails", made, pair)), word is None)

    def test_right_one(self):
        self.judged_as(None, RIGHT, ("x", "z"))

    def test_each_word(self):
        other = Frame(FRAME.sorts(), FRAME.letters(), [("r", "on")])
        self.judged_as("frame", World(other, *RIGHT.told()), ("x", "z"))
        self.judged_as("frame", SMALL_WORLD, ("x", "z"))
        self.judged_as("book", world(["x", "y", "z"], [("x", "y"), ("y", "z")]), ("x", "z"))
        self.judged_as("less", RIGHT, ("x", "y"))
        self.judged_as("more", world(["x"], [("x", "x")]), ("x", "x"))
        self.judged_as("many", with_thing(RIGHT, "b", "x"), ("x", "z"))

    def test_totals(self):
        frame = Frame(FRAME.sorts(), FRAME.letters(), [("r", "on")])
        book = Book(frame, [])
        bare = World(frame, {"a": ["x"], "b": []}, {"r": [], "s": [], "t": [("x", "x")], "u": []})
        self.judged_as("book", bare, ("x", "x"), (T, ("other", "a")), book)
        full = with_pair(with_thing(bare, "b", "x"), "r", "x", "x")
        self.judged_as(None, full, ("x", "x"), (T, ("other", "a")), book)
        # By made places t has ways of four places.
        self.judged_as(None, with_thing(with_thing(full, "b", "y"), "b", "z"), ("x", "x"), (T, ("other", "a")), book)
        self.judged_as("many", with_thing(with_thing(with_thing(full, "b", "y"), "b", "z"), "b", "w"), ("x", "x"),
                       (T, ("other", "a")), book)

    def test_first_word(self):
        broken = world(["x", "y", "z", "w"], [("x", "y"), ("y", "z")])
        self.judged_as("book", broken, ("x", "x"))
        self.judged_as("book", broken, None)
        large = world(["x", "y", "z", "w"], [("x", "y"), ("y", "z"), ("x", "z"), ("w", "w")])
        self.judged_as("less", large, ("w", "x"))
        self.judged_as("more", large, ("w", "w"))
        self.judged_as("many", large, ("x", "z"))
        self.judged_as("frame", World(Frame(["a"], [], []), {"a": ["x"]}, {}), None)

    def test_any_pair(self):
        for value in ODD_VALUES + [["x", "z"], ("x",), ("x", "z", "z"), ("x", "q"), ("q", "z"), (["x"], "z"), ("x", None)]:
            self.judged_as("less", RIGHT, value)


class Judge(Case):
    def test_right_ones(self):
        for claim in (HOLDS, FAILS):
            answer = decide(BOOK, claim)
            self.assertIs(self.unchanged(judge, BOOK, claim, answer), True)
        self.assertIs(judge(BOOK, HOLDS, ("holds", tuple(decide(BOOK, HOLDS)[1]))), True)
        self.assertIs(judge(BOOK, FAILS, ("fails", RIGHT, ("x", "z"))), True)
        self.assertIs(judge(BOOK, FAILS, decide_way(BOOK, FAILS, 0)), True)

    def test_wrong_ones(self):
        papers = decide(BOOK, HOLDS)[1]
        values = ODD_VALUES + [("holds",), ("holds", papers, None), ["holds", papers], ("fails", papers), ("holds", None), (papers,),
                               ("holds", papers[:1]), ("holds", papers[::-1]), ("hold", papers), ("fails", RIGHT, ("x", "z")),
                               ("fails", None, ("x", "z")), ("fails", RIGHT), (True, papers), (["holds"], papers), (1, papers)]
        for value in values:
            self.assertIs(self.unchanged(judge, BOOK, HOLDS, value), False)
        for value in values[:-6] + [["fails", RIGHT, ("x", "z")], ("fails", RIGHT, ["x", "z"]), ("fails", RIGHT, ("x", "z"), 3),
                                    ("fails", RIGHT, ("x", "y")), ("fails", RIGHT, None), ("fails", BOOK, ("x", "z")),
                                    ("fails", None, ("x", "z")), ("fails", RIGHT.told(), ("x", "z")), ("holds", RIGHT, ("x", "z"))]:
            self.assertIs(judge(BOOK, FAILS, value), value == ("fails", RIGHT, ("x", "z")))


if __name__ == "__main__":
    unittest.main()
