"""The texts of terms (S3.6, S3.7)."""

import random
import unittest

from pairlaws.errors import BadTerm, BadText
from pairlaws.frames import Frame
from pairlaws.termtexts import read_term, write_term
from tests.support import Case
from tests.termsupport import FRAME, R, S, T, chance_terms, nested

LETTERS = "abcdefghijklmnopqrstuvwxyz"
EXAMPLES = (
    (R, "r"), (("same", "a"), "1[a]"), (("other", "b"), "2[b]"), (("none", "a", "b"), "0[a b]"),
    (("all", "b", "a"), "9[b a]"), (("turned", R), "r'"), (("closed", T), "t+"), (("walked", T), "t*"),
    (("rest", R), "~r"), (("then", R, S), "r ; s"), (("cut", R, R), "r & r"), (("joined", R, R), "r | r"),
    (("turned", ("turned", R)), "r''"), (("walked", ("closed", ("turned", T))), "t'+*"),
    (("rest", ("turned", R)), "~r'"), (("turned", ("rest", R)), "(~r)'"), (("rest", ("rest", R)), "~~r"),
    (("closed", ("rest", ("same", "a"))), "(~1[a])+"),
    (("then", ("then", T, T), R), "t ; t ; r"), (("then", T, ("then", T, R)), "t ; (t ; r)"),
    (("joined", ("joined", T, T), T), "t | t | t"), (("joined", T, ("joined", T, T)), "t | (t | t)"),
    (("cut", ("cut", T, T), T), "t & t & t"), (("cut", T, ("cut", T, T)), "t & (t & t)"),
    (("joined", ("cut", T, T), ("then", T, T)), "t & t | t ; t"), (("cut", ("joined", T, T), T), "(t | t) & t"),
    (("then", T, ("cut", T, T)), "t ; (t & t)"), (("then", ("rest", T), ("rest", T)), "~t ; ~t"),
    (("cut", T, ("then", T, T)), "t & t ; t"), (("joined", T, ("cut", T, T)), "t | t & t"),
    (("then", ("cut", T, T), ("joined", T, T)), "(t & t) ; (t | t)"),
    (("rest", ("then", T, T)), "~(t ; t)"), (("rest", ("cut", T, T)), "~(t & t)"), (("walked", ("joined", T, T)), "(t | t)*"),
    (("turned", ("closed", ("then", R, S))), "(r ; s)+'"), (("rest", ("closed", ("joined", T, T))), "~(t | t)+"),
    (("joined", ("rest", ("cut", T, T)), ("rest", T)), "~(t & t) | ~t"),
    (("cut", ("rest", ("joined", T, T)), ("turned", ("then", T, ("walked", T)))), "~(t | t) & (t ; t*)'"))
# Each symbol of more than one sign stands for one of these rows of signs and symbols.
GRAMMAR = {
    "TERM": [["PREFIXED"], ["PREFIXED", " ", "BINARY", " ", "TERM"]],
    "BINARY": [[";"], ["&"], ["|"]],
    "PREFIXED": [["~", "PREFIXED"], ["LEAF", "AFTER"]],
    "AFTER": [[], ["'", "AFTER"], ["+", "AFTER"], ["*", "AFTER"]],
    "LEAF": [["WORD"], ["(", "TERM", ")"], ["1", "[", "WORD", "]"], ["2", "[", "WORD", "]"],
             ["0", "[", "WORD", " ", "WORD", "]"], ["9", "[", "WORD", " ", "WORD", "]"]],
    "WORD": [["LETTER", "SIGNS11"]], "LETTER": [[sign] for sign in LETTERS],
    "SIGN": [[sign] for sign in LETTERS + "0123456789"], "SIGNS0": [[]],
    **{f"SIGNS{count}": [[], ["SIGN", f"SIGNS{count - 1}"]] for count in range(1, 12)},
}


def opened(stacks):
    """The stacks with a sign on top, or none, to which some stacks of symbols lead."""
    waiting, found = list(stacks), set()
    while waiting:
        stack = waiting.pop()
        if stack and len(stack[0]) > 1:
            waiting.extend([tuple(row) + stack[1:] for row in GRAMMAR[stack[0]]])
        else:
            found.add(stack)
    return found


def place_of_fault(text):
    """The first invalid sign by the grammar, or None."""
    stacks = opened([("TERM",)])
    for at, sign in enumerate(text):
        stacks = opened([stack[1:] for stack in stacks if stack and stack[0] == sign])
        if not stacks:
            return at
    return None if () in stacks else len(text)


class Write(Case):
    def test_examples(self):
        for term, text in EXAMPLES:
            self.assertEqual(self.unchanged(write_term, term), text)

    def test_names_as_they_are(self):
        self.assertEqual(write_term(("then", ("letter", "abcdefghijk9"), ("all", "same", "x1"))), "abcdefghijk9 ; 9[same x1]")

    def test_no_bracket_is_idle(self):
        for _, term in chance_terms(150, 5, 31):
            text = write_term(term)
            for first, last in bracket_pairs(text):
                bare = text[:first] + text[first + 1:last] + text[last + 1:]
                try:
                    self.assertNotEqual(read_term(FRAME, bare), term, text)
                except BadTerm:
                    pass


def bracket_pairs(text):
    waiting = []
    for at, sign in enumerate(text):
        if sign == "(":
            waiting.append(at)
        elif sign == ")":
            yield waiting.pop(), at


class Read(Case):
    def test_examples(self):
        for term, text in EXAMPLES:
            self.assertEqual(self.unchanged(read_term, FRAME, text), term)

    def test_there_and_back(self):
        for _, term in chance_terms(400, 6, 32):
            self.assertEqual(read_term(FRAME, write_term(term)), term)

    def test_brackets_that_are_not_needed(self):
        for text, bare in (("(r)", "r"), ("((1[a]))", "1[a]"), ("(r')", "r'"), ("(r)'", "r'"), ("~(t)", "~t"),
                           ("(~t) ; (t)", "~t ; t"), ("((t ; t)) ; t", "t ; t ; t"), ("(((t) | (t)))+", "(t | t)+"),
                           ("(t & t) | t", "t & t | t"), ("((t'))'", "t''"), ("(~(~(t)))", "~~t")):
            self.assertEqual(read_term(FRAME, text), read_term(FRAME, bare))
        for _, term in chance_terms(100, 5, 33):
            self.assertEqual(read_term(FRAME, bracketed(term)), term)

    def test_longest_texts(self):
        self.assertEqual(read_term(FRAME, "(" * 199 + "t" + ")" * 199), T)
        self.assertEqual(read_term(FRAME, "~" * 399 + "t"), nested("rest", T, 399))
        self.assertEqual(read_term(FRAME, "t" + "'" * 399), nested("turned", T, 399))
        self.assertEqual(read_term(FRAME, "~(" * 133 + "t" + ")" * 133), nested("rest", T, 133))
        for text in ("~" * 399 + "t", "t" + "'" * 399, " ; ".join(["t"] * 100)):
            self.assertEqual(write_term(read_term(FRAME, text)), text)
        self.bad(400, "(" * 400)
        self.bad(399, "(" * 199 + "t" + ")" * 200)
        left = T
        for _ in range(99):
            left = ("then", left, T)
        self.assertEqual(read_term(FRAME, " ; ".join(["t"] * 100)), left)

    def bad(self, place, text):
        self.fails(BadText, {"place": place}, read_term, FRAME, text)

    def test_first_invalid_sign(self):
        for text, place in (
                ("", 0), (" ", 0), (" r", 0), ("R", 0), ("3", 0), ("3[a]", 0), ("+", 0), (")", 0), ("'", 0), ("[", 0),
                ("r ", 2), ("r  ", 2), ("r ;", 3), ("r ; ", 4), ("r ;s", 3), ("r;s", 1), ("r ; ;", 4), ("r s", 2), ("r)", 1),
                ("(r", 2), ("(", 1), ("()", 1), ("(r))", 3), ("(r)s", 3), ("(r) s", 4), ("~", 1), ("~ r", 1), ("r~", 1),
                ("r ~s", 2), ("r '", 2), ("r,s", 1), ("1", 1), ("1[", 2), ("1[a", 3), ("1[]", 2), ("1[a b]", 3), ("1[ a]", 2),
                ("1[a ]", 3), ("1[A]", 2), ("1[2]", 2), ("1 [a]", 1), ("1(a)", 1), ("1a", 1), ("2[a]]", 4), ("0[a]", 3),
                ("0[a b", 5), ("0[a  b]", 4), ("0[a ", 4), ("9[a b c]", 5), ("9[a,b]", 3), ("9[a b]9", 6), ("r[a]", 1),
                ("r2[a]", 2), ("rS", 1), ("r_", 1), ("r | | s", 4), ("r || s", 3), ("r && s", 3), ("r & s |", 7), ("(r ; s", 6),
                ("r ; (s", 6), ("r ; ()", 5), ("r ; s) ; t", 5), ("r\\", 1), ("r ; \"", 4), ("r-", 1), ("r + s", 2)):
            self.bad(place, text)
            self.assertEqual(place_of_fault(text), place)

    def test_long_words(self):
        frame = Frame(["abcdefghijkl"], [("a12345678901", "abcdefghijkl", "abcdefghijkl")], [])
        self.assertEqual(read_term(frame, "a12345678901"), ("letter", "a12345678901"))
        self.assertEqual(read_term(frame, "1[abcdefghijkl]'"), ("turned", ("same", "abcdefghijkl")))
        self.bad(12, "a123456789012")
        self.bad(12, "a123456789012345 ?")
        self.bad(14, "1[abcdefghijklm]")
        self.bad(27, "0[abcdefghijkl abcdefghijklm]")
        self.bad(17, "r ; (abcdefghijklm")

    def test_signs_before_names(self):
        # Whether the letters and sorts exist counts only for a text that can be read.
        self.bad(6, "x ; y )")
        self.bad(5, "zz ; ")
        self.fails(BadTerm, {"path": ()}, read_term, FRAME, "x")
        self.fails(BadTerm, {"path": (1,)}, read_term, FRAME, "r ; x")
        self.fails(BadTerm, {"path": (0,)}, read_term, FRAME, "~1[r]")
        self.fails(BadTerm, {"path": (0, 1)}, read_term, FRAME, "(t & 9[a c]) ; u")
        self.fails(BadTerm, {"path": ()}, read_term, FRAME, "r ; r")
        self.fails(BadTerm, {"path": (0, 0)}, read_term, FRAME, "r+ ; s | t")
        self.fails(BadTerm, {"path": (0,) * 398}, read_term, FRAME, "~" * 398 + "r+")

    def test_every_short_text(self):
        signs = "a1 [](~';"
        for length in range(5):
            for number in range(len(signs) ** length):
                text = "".join([signs[number // len(signs) ** at % len(signs)] for at in range(length)])
                self.judge(text)

    def test_changed_texts(self):
        chance = random.Random(34)
        for _, term in chance_terms(300, 5, 35):
            text = write_term(term)
            for _ in range(3):
                at = chance.randrange(len(text))
                sign = chance.choice("rs12309[]() ~'+*;&|A{")
                self.judge(text[:at])
                self.judge(text[:at] + sign + text[at:])
                self.judge(text[:at] + sign + text[at + 1:])
                self.judge(text[:at] + text[at + 1:])

    def judge(self, text):
        """The text is read, or is refused at the place that the grammar tells."""
        place = place_of_fault(text)
        if place is not None:
            self.bad(place, text)
            return
        try:
            term = read_term(FRAME, text)
            self.assertEqual(read_term(FRAME, write_term(term)), term)
        except BadTerm:
            pass


def bracketed(term):
    """A text of a term with brackets around each part."""
    word, *told = term
    if word in ("letter", "same", "other", "none", "all"):
        return f"({write_term(term)})"
    below = [bracketed(part) for part in told]
    if word in ("then", "cut", "joined"):
        return f"({below[0]} {dict(then=';', cut='&', joined='|')[word]} {below[1]})"
    return f"(~{below[0]})" if word == "rest" else f"({below[0]}{dict(turned=chr(39), closed='+', walked='*')[word]})"


if __name__ == "__main__":
    unittest.main()
