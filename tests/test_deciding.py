"""Deciding claims (S6.7)."""

import time
import unittest

from pairlaws.books import Book, obeys
from pairlaws.cases import bound, first_wrong, ways_of_law, weeded
from pairlaws.deciding import decide, decide_way, holds
from pairlaws.frames import Frame
from pairlaws.leads import first_lead
from pairlaws.lawpapers import judge, judge_world
from pairlaws.termtexts import read_term
from pairlaws.worths import worth
from tests.casesupport import TOTAL, all_small_worlds, chance_book, seeded
from tests.support import Case, written
from tests.termsupport import FLAT, FRAME, KEPT, SHORT, chance_term

ORDER = Frame(["a"], [("t", "a", "a")], [])
PAIR = Frame(["a"], [("t", "a", "a"), ("v", "a", "a")], [])
HAS = Frame(["a", "b"], [("r", "a", "b")], [("r", "on")])
CHAIN = Frame(["a", "b", "c"], [("r", "a", "b"), ("s", "c", "b")], [("s", "back"), ("r", "on")])
BIG = Frame(["a", "b"], [("r", "a", "b"), ("t", "a", "a")], [])


def told(frame, premises, claim):
    """A book and a claim from texts with <= between two terms."""
    def both(text):
        return tuple(read_term(frame, part) for part in text.split(" <= "))
    return Book(frame, [both(text) for text in premises]), both(claim)


class Judged(Case):
    def judged_answer(self, book, claim):
        answer = self.unchanged(decide, book, claim)
        self.assertIs(judge(book, claim, answer), True, answer)
        self.assertIs(holds(book, claim), answer[0] == "holds")
        for number, way in enumerate(ways_of_law(book, claim)):
            alone = self.unchanged(decide_way, book, claim, number)
            if alone[0] == "holds":
                self.assertEqual(len(alone), 2)
                self.assertIs(first_wrong(book, claim, number, alone[1]), None)
                self.assertEqual(weeded(book, claim, number, alone[1]), alone[1])
            else:
                self.assertIs(judge_world(book, claim, *alone[1:]), None)
                self.assertIsNotNone(first_lead(way, alone[1], *alone[2]))
            if answer[0] == "holds":
                self.assertEqual(alone, ("holds", answer[1][number]))
        return answer


class Examples(Judged):
    def hold(self, frame, premises, claim, right=True):
        answer = self.judged_answer(*told(frame, premises, claim))
        self.assertEqual(answer[0], "holds" if right else "fails", (premises, claim))
        return answer

    def fail(self, frame, premises, claim):
        return self.hold(frame, premises, claim, False)

    def test_by_themselves(self):
        for claim in ("r <= r", "0[a b] <= r", "r <= 9[a b]", "1[a] <= 1[a]", "2[a] & 1[a] <= 0[a a]", "r <= 1[a] ; r", "r ; 1[b] <= r",
                      "t & ~t <= 0[a a]", "9[a a] <= t | ~t", "9[a a] <= 1[a] | 2[a]", "(r ; s)' <= s' ; r'", "t ; t <= t+",
                      "t <= t*", "t ; t ; t ; t <= t+", "1[a] <= t*", "r ; u ; s <= r ; u+ ; s",
                      "r & (t ; r) <= t ; (t' ; r & r) | r", "r ; s & t <= (r & (t ; s')) ; s", "r <= r ; r' ; r", "~(t | t') <= ~t",
                      "(t | r ; s) ; t <= t ; t | r ; s ; t", "(r | r) & (r | r) <= r & r"):
            self.hold(FRAME, [], claim)
        for claim in ("r <= 0[a b]", "9[a b] <= r", "9[a a] <= 1[a]", "2[a] <= 0[a a]", "t ; t <= t", "t <= t'",
                      "1[a] <= t+", "r ; s <= s' ; r'", "r ; r' <= 1[a]", "~t <= ~(t | t')", "1[a] <= r ; r'",
                      "(t ; r) & (t ; r) <= t ; (r & r) & 0[a b]", "t ; t & t <= t ; (t & t) ; t", "9[a a] <= 9[a b] ; 9[b a]"):
            self.fail(FRAME, [], claim)

    def test_by_premises(self):
        through, both = "t ; t <= t", "t <= t'"
        self.hold(FRAME, [through], "t ; t ; t <= t")
        self.fail(FRAME, [through], "t <= t ; t")
        self.hold(FRAME, [through, both], "t ; t' <= t")
        self.hold(FRAME, [through, both], "t ; t <= t & t'")
        self.fail(FRAME, [both], "t ; t <= t")
        self.hold(FRAME, ["r' ; r <= 1[b]"], "r ; u & r ; ~u <= 0[a b]")
        self.fail(FRAME, [], "r ; u & r ; ~u <= 0[a b]")
        self.hold(FRAME, ["9[a b] <= 0[a b]"], "9[a b] <= r")
        self.hold(FRAME, ["9[a a] <= 0[a a]"], "9[b a] <= s")
        self.fail(FRAME, ["9[a a] <= 0[a a]"], "9[b b] <= u")
        self.hold(FRAME, ["9[a a] <= 1[a]"], "t ; t <= t")
        self.hold(FRAME, ["t+ <= t"], "t ; t ; t <= t")
        self.hold(FRAME, ["t+ <= 2[a]"], "t ; t ; t <= 2[a]")
        self.hold(FRAME, ["~t <= t"], "1[a] <= t")
        self.hold(FRAME, ["r ; s <= t", "t ; t <= t"], "r ; s <= t")
        self.hold(FRAME, ["t <= t"] * 2, "t <= t")
        # Two premises without each of which the claim fails.
        self.hold(FRAME, ["t <= 1[a]", "1[a] <= t"], "9[a a] <= ~t | 1[a]")
        self.fail(FRAME, ["1[a] <= t"], "9[a a] <= ~t | 1[a]")

    def test_by_totals(self):
        # By a total alone, and by totals one after the other.
        self.hold(HAS, [], "1[a] <= r ; r'")
        self.fail(HAS, [], "1[b] <= r' ; r")
        self.hold(HAS, [], "9[a a] <= 9[a b] ; 9[b a]")
        self.fail(HAS, [], "9[b b] <= 9[b a] ; 9[a b]")
        self.hold(CHAIN, [], "1[a] <= r ; s' ; s ; r'")
        self.hold(CHAIN, [], "9[a b] <= r ; s' ; 9[c b]")
        self.fail(CHAIN, [], "1[c] <= s ; s'")
        self.hold(HAS, ["r' ; r <= 1[b]", "r ; r' <= 1[a]"], "1[a] <= r ; r'")
        self.hold(HAS, ["9[b b] <= 1[b]"], "9[a b] <= r")
        self.fail(HAS, [], "9[a b] <= r")

    def test_worlds_that_show_it(self):
        answer = self.fail(FRAME, [], "t <= t'")
        self.assertEqual(written(answer[2]), written(("p0", "p1")))
        self.assertEqual(answer[1].told(), ({"a": ["p0", "p1"], "b": []}, {"r": [], "s": [], "t": [("p0", "p1")], "u": []}))
        self.assertEqual(len(answer), 3)

    def test_several_ways(self):
        answer = self.hold(FRAME, ["t ; t <= t"], "t | t ; t | 1[a] <= t | 1[a]")
        self.assertEqual(len(answer[1]), 3)
        self.assertIsInstance(answer[1], list)
        book, claim = told(FRAME, [], "t | t ; t | r ; s <= t")
        self.assertEqual([decide_way(book, claim, number)[0] for number in range(3)], ["holds", "fails", "fails"])
        self.judged_answer(book, claim)
        self.told_anew(decide, *told(FRAME, ["t ; t <= t"], "t | t ; t <= t"))

    def test_more_colours_than_places(self):
        # Of three different places two are alike if there are only two kinds; four can be told apart by two letters.
        kinds = ["t <= t'", "1[a] <= t", "t ; t <= t"]
        self.hold(ORDER, kinds + ["~t ; ~t <= t"], "2[a] ; 2[a] <= t | (2[a] ; t) | (t ; 2[a])")
        self.fail(ORDER, kinds, "(2[a] ; 2[a]) & 2[a] <= t | ((2[a] & t) ; 9[a a]) | (9[a a] ; (2[a] & t))")

    def test_at_the_limits(self):
        began = time.time()
        hard = ["2[a] <= t | t'", "(t ; t) & t' <= 0[a a]", "1[a] <= ~t", "(t ; t) & t <= 0[a a]", "t & t' <= 0[a a]",
                "t ; t ; t <= ~1[a]", "(t ; t ; t) & t <= 2[a]", "t ; t' & t <= 2[a]"]
        self.hold(ORDER, hard, "(2[a] ; 2[a] ; 2[a]) & 2[a] & (9[a a] ; 2[a]) <= t ; (~t | t) | ~(t | 1[a])")
        # Twelve ways with four places and all their atoms.
        some = " | ".join(["1[a]", "t", "t'"])
        wide = f"({some}) ; ({some} | 2[a]) ; 2[a]"
        for claim in (f"{wide} <= t+", f"{wide} <= (t | t') ; (t* | t'*) ; 9[a a]"):
            book, claim = told(ORDER, hard[:4], claim)
            self.assertEqual(len(ways_of_law(book, claim)), 1)
            self.judged_answer(book, claim)
        joined = " | ".join(["(2[a] ; t ; ~t)", "(t ; 2[a] ; t)", "(~t ; ~t ; ~t)"] * 4)
        for premises in (hard, hard[:3], hard[2:], [], ["t' ; t <= 1[a]", "2[a] ; 2[a] <= t | t'"]):
            book, claim = told(ORDER, premises, f"{joined} <= t ; t* & ~(t & t')")
            self.assertEqual(len(ways_of_law(book, claim)), 12)
            self.judged_answer(book, claim)
        self.assertLess(time.time() - began, 60)

    def test_eight_places(self):
        premises = ["r' ; r <= 1[b]"]
        chain = "r ; r' ; r ; r' ; r ; r' ; r"
        frame = Frame(["a", "b"], [("r", "a", "b")], [])
        book, claim = told(frame, premises, f"{chain} <= r")
        self.assertEqual(bound(book, claim), 8)
        self.assertEqual(self.judged_answer(book, claim)[0], "holds")
        book, claim = told(frame, ["9[a a] ; 9[a a] <= 9[a a]"] * 8, f"{chain} <= r")
        self.assertEqual(self.judged_answer(book, claim)[0], "fails")
        book, claim = told(frame, ["9[a b] ; ~r' <= 2[a]", "2[b] <= 9[b b]"], f"{chain} <= r | ~r")
        self.judged_answer(book, claim)

    def test_letters_that_do_not_count(self):
        letters = [(f"l{number}", "a", "a") for number in range(7)] + [("t", "a", "a")]
        frame = Frame(["a"], letters, [])
        self.hold(frame, ["t ; t <= t"], "t ; t ; t <= t")
        answer = self.fail(frame, ["t ; t <= t"], "t ; t ; t <= t'")
        self.assertEqual({name for name, pairs in answer[1].told()[1].items() if pairs}, {"t"})


class AllWorlds(Case):
    def agree(self, frame, most, seed, count, depth=3):
        """For drawn claims: a claim fails exactly if a world with at most as many things as the bound breaks it."""
        chance, worlds, answers = seeded(seed), list(all_small_worlds(frame, most)), {"holds": 0, "fails": 0}
        while min(answers.values()) < count:
            sorts = frame.sorts()
            premises = []
            for _ in range(chance.randint(0, 3)):
                ends = (chance.choice(sorts), chance.choice(sorts))
                premises.append((chance_term(chance, ends, depth, (KEPT,), frame), chance_term(chance, ends, 2, FLAT, frame)))
            ends = (chance.choice(sorts), chance.choice(sorts))
            book = Book(frame, premises)
            claim = (chance_term(chance, ends, depth, (*SHORT, "none"), frame), chance_term(chance, ends, depth, (KEPT,), frame))
            if bound(book, claim) > most:
                continue
            answer = decide(book, claim)
            answers[answer[0]] += 1
            self.assertIs(judge(book, claim, answer), True)
            fails = any(world.total() <= bound(book, claim) and not worth(world, claim[0]) <= worth(world, claim[1])
                        and obeys(book, world) for world in worlds)
            self.assertEqual(answer[0], "fails" if fails else "holds", (premises, claim))

    def test_one_letter(self):
        self.agree(ORDER, 3, 111, 25)

    def test_two_letters(self):
        self.agree(PAIR, 2, 112, 25)

    def test_totals(self):
        self.agree(HAS, 4, 113, 25)
        self.agree(CHAIN, 4, 114, 25)

    def test_two_sorts(self):
        self.agree(BIG, 3, 115, 20)


class Drawn(Judged):
    def test_all_answers_are_right(self):
        chance, answers = seeded(116), {"holds": 0, "fails": 0}
        while min(answers.values()) < 60:
            book = chance_book(chance, 4)
            ends = (chance.choice("ab"), chance.choice("ab"))
            claim = (chance_term(chance, ends, 3, (*SHORT, "none")), chance_term(chance, ends, 4, (KEPT,)))
            if bound(book, claim) <= 5:
                answers[self.judged_answer(book, claim)[0]] += 1

    def test_frames_with_totals(self):
        chance = seeded(117)
        for _ in range(40):
            ends = (chance.choice("ab"), chance.choice("ab"))
            claim = (chance_term(chance, ends, 2, SHORT), chance_term(chance, ends, 4, (KEPT,)))
            # What holds without a total holds with it, too.
            if holds(Book(FRAME, []), claim):
                self.assertIs(holds(Book(TOTAL, []), claim), True)


if __name__ == "__main__":
    unittest.main()
