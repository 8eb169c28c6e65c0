"""Judging what supports an answer about a claim: papers and worlds (S6.7)."""

from pairlaws.books import obeys
from pairlaws.cases import bound, first_wrong, ways_of_law
from pairlaws.worlds import World
from pairlaws.worths import worth


def judge_papers(book, claim, papers):
    """None if papers, which may be any value, holds a right case paper for each way; else the first wrong node."""
    count = len(ways_of_law(book, claim))
    if not isinstance(papers, (list, tuple)) or len(papers) != count:
        return (count, (), "form")
    for number, paper in enumerate(papers):
        wrong = first_wrong(book, claim, number, paper)
        if wrong is not None:
            return (number, wrong[0], wrong[1])
    return None


def judge_world(book, claim, world, pair):
    """None if a world and a pair, which may be any value, show that a claim fails; else a word that tells why not."""
    most = bound(book, claim)
    if world.frame() != book.frame():
        return "frame"
    if not obeys(book, world):
        return "book"
    if pair not in worth(world, claim[0]):
        return "less"
    if pair in worth(world, claim[1]):
        return "more"
    return "many" if world.total() > most else None


def judge(book, claim, answer):
    """Whether an answer, which may be any value, is one that decide may return."""
    ways_of_law(book, claim)
    if not isinstance(answer, tuple):
        return False
    if len(answer) == 2 and answer[0] == "holds":
        return judge_papers(book, claim, answer[1]) is None
    if len(answer) == 3 and answer[0] == "fails" and isinstance(answer[1], World):
        return judge_world(book, claim, answer[1], answer[2]) is None
    return False
