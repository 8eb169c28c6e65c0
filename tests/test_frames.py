"""Frames (S3.1 and the interface)."""

import unittest

from pairlaws.errors import BadFrame, BadName, ComesRound, TwiceTold, UnknownName
from pairlaws.frames import Frame
from tests.support import ODD_VALUES, Case

BAD_WORDS = ["", "A", "1a", "a b", "a_", "abcdefghijklm", "\u00e9", "a\n", "on ", " "]
SORTS = ["man", "dog"]
LETTERS = [("owns", "man", "dog"), ("knows", "man", "man"), ("man", "dog", "man")]
TOTALS = [("owns", "on"), ("man", "back")]


def told(frame):
    return (frame.sorts(), frame.letters(), frame.totals())


class Making(Case):
    def test_told(self):
        frame = self.unchanged(Frame, SORTS, LETTERS, TOTALS)
        self.assertEqual(told(frame), (SORTS, LETTERS, TOTALS))
        self.assertEqual(told(Frame(tuple(SORTS), tuple(LETTERS), tuple(TOTALS))), (SORTS, LETTERS, TOTALS))
        self.assertEqual(told(Frame([], [], [])), ([], [], []))
        self.assertEqual(told(Frame(["a"], [], [])), (["a"], [], []))

    def test_nothing_is_kept_or_shared(self):
        sorts, letters, totals = list(SORTS), list(LETTERS), list(TOTALS)
        frame = Frame(sorts, letters, totals)
        for mine in (sorts, letters, totals, frame.sorts(), frame.letters(), frame.totals(), frame.totals_from("man")):
            mine.clear()
        self.assertEqual(told(frame), (SORTS, LETTERS, TOTALS))
        self.assertEqual(frame.totals_from("man"), TOTALS)

    def test_bad_names(self):
        for name in BAD_WORDS:
            self.fails(BadName, {"name": name}, Frame, ["a", "a", name, "B"], [("C", "q", "q")], [])
            self.fails(BadName, {"name": name}, Frame, ["a", "a"], [("r", "q", "q"), (name, "a", "a")], [("q", "q")])

    def test_twice_told(self):
        self.fails(TwiceTold, {"name": "b"}, Frame, ["a", "b", "b", "a"], [("r", "q", "a"), ("r", "a", "a")], [])
        letters = [("r", "a", "q"), ("s", "a", "a"), ("s", "a", "a"), ("r", "a", "a")]
        self.fails(TwiceTold, {"name": "s"}, Frame, ["a"], letters, [("q", "on")])

    def test_unknown_ends(self):
        for name in BAD_WORDS + ["b", "r"]:
            letters = [("r", "a", "a"), ("s", "a", name), ("t", "x", "y")]
            self.fails(UnknownName, {"name": name}, Frame, ["a"], letters, [("q", "off")])
            self.fails(UnknownName, {"name": name}, Frame, ["a"], [("s", name, "x"), ("t", "y", "y")], [("q", "on")])

    def test_unknown_totals(self):
        letters = [("r", "a", "b")]
        for name in BAD_WORDS + ["a", "s"]:
            totals = [("r", "off"), ("r", "on"), ("r", "on"), (name, "on"), ("x", "on")]
            self.fails(UnknownName, {"name": name}, Frame, ["a", "b"], letters, totals)

    def test_bad_totals(self):
        letters = [("r", "a", "b"), ("s", "a", "a"), ("t", "a", "b")]
        for word in BAD_WORDS + ["off", "On", "r"]:
            totals = [("s", "on"), ("r", "on"), ("t", word), ("r", "on")]
            self.fails(BadFrame, {"name": "t"}, Frame, ["a", "b"], letters, totals)
        totals = [("s", "on"), ("r", "on"), ("t", "on"), ("t", "on"), ("r", "on")]
        self.fails(BadFrame, {"name": "t"}, Frame, ["a", "b"], letters, totals)
        self.assertEqual(len(Frame(["a", "b"], letters, [("r", "on"), ("t", "on")]).totals()), 2)


class Rounds(Case):
    def test_one_sort(self):
        for word in ("on", "back"):
            self.fails(ComesRound, {"members": ("a",)}, Frame, ["b", "a"], [("r", "a", "a")], [("r", word)])

    def test_on_and_back(self):
        letters = [("r", "a", "b"), ("s", "a", "b"), ("t", "b", "a")]
        self.fails(ComesRound, {"members": ("b", "a")}, Frame, ["b", "a"], letters, [("r", "on"), ("r", "back")])
        self.fails(ComesRound, {"members": ("b", "a")}, Frame, ["b", "a"], letters, [("r", "on"), ("s", "back")])
        self.fails(ComesRound, {"members": ("a", "b")}, Frame, ["a", "b"], letters, [("r", "on"), ("t", "on")])
        for totals in ([("r", "on"), ("s", "on")], [("r", "on"), ("t", "back")], [("r", "back"), ("t", "on")]):
            self.assertEqual(Frame(["a", "b"], letters, totals).totals(), totals)

    def test_what_is_left(self):
        letters = [("ab", "a", "b"), ("bc", "b", "c"), ("ca", "c", "a"), ("da", "d", "a"), ("ae", "a", "e")]
        sorts = ["e", "d", "c", "b", "a"]
        totals = [("ab", "on"), ("bc", "on"), ("ca", "on")]
        self.fails(ComesRound, {"members": ("c", "b", "a")}, Frame, sorts, letters, totals)
        # A sort from which a step leads into the round is left, one to which a step leads from it is not.
        self.fails(ComesRound, {"members": ("c", "b", "a")}, Frame, sorts, letters, [*totals, ("ae", "on")])
        self.fails(ComesRound, {"members": ("d", "c", "b", "a")}, Frame, sorts, letters, [*totals, ("da", "on")])
        fine = [("ab", "on"), ("bc", "on"), ("da", "on"), ("ae", "on")]
        self.assertEqual(Frame(sorts, letters, fine).totals(), fine)


class Asking(Case):
    def setUp(self):
        self.frame = Frame(SORTS, LETTERS, TOTALS)

    def test_ends(self):
        for name, first, second in LETTERS:
            self.assertEqual(self.frame.ends(name), (first, second))
        for value in ODD_VALUES + ["dog", "own", *LETTERS]:
            self.fails(UnknownName, {"name": value}, self.frame.ends, value)

    def test_has(self):
        for value in ODD_VALUES + ["own", "on", *LETTERS, *TOTALS]:
            self.assertIs(self.frame.has_sort(value), False)
            self.assertIs(self.frame.has_letter(value), False)
        self.assertEqual([self.frame.has_sort(x) for x in ("man", "dog", "owns", "knows")], [True, True, False, False])
        self.assertEqual([self.frame.has_letter(x) for x in ("man", "dog", "owns", "knows")], [True, False, True, True])

    def test_totals_from(self):
        letters = [("r", "a", "b"), ("s", "b", "c"), ("t", "c", "a"), ("u", "a", "c")]
        totals = [("u", "on"), ("t", "back"), ("r", "on"), ("s", "on")]
        frame = Frame(["c", "b", "a"], letters, totals)
        self.assertEqual(frame.totals_from("a"), [("u", "on"), ("t", "back"), ("r", "on")])
        self.assertEqual(frame.totals_from("b"), [("s", "on")])
        self.assertEqual(frame.totals_from("c"), [])
        for value in ODD_VALUES[:-1] + ["r"]:
            if value != "a":
                self.fails(UnknownName, {"name": value}, frame.totals_from, value)

    def test_equal(self):
        self.assertTrue(self.frame == Frame(SORTS, LETTERS, TOTALS))
        self.assertFalse(self.frame != Frame(tuple(SORTS), LETTERS, TOTALS))
        for other in (Frame(SORTS[::-1], LETTERS, TOTALS), Frame(SORTS, LETTERS[::-1], TOTALS),
                      Frame(SORTS, LETTERS, TOTALS[::-1]), Frame([*SORTS, "x"], LETTERS, TOTALS),
                      Frame(SORTS, LETTERS, TOTALS[:1]), Frame([], [], [])):
            self.assertFalse(self.frame == other)
            self.assertTrue(self.frame != other)
        self.assertTrue(Frame([], [], []) == Frame([], [], []))
        for value in ODD_VALUES + [told(self.frame)]:
            self.assertFalse(self.frame == value)
            self.assertFalse(value == self.frame)


if __name__ == "__main__":
    unittest.main()
