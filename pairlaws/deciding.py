"""Deciding whether a claim holds by a book (S6.7)."""

from pairlaws.cases import question_of, ways_of_law
from pairlaws.known import world_of_facts
from pairlaws.questions import Question
from pairlaws.searching import searched


def _answer_of(question):
    """("holds", paper) or ("fails", world, pair) for one way."""
    paper, shown = searched(question)
    if paper is not None:
        return ("holds", paper)
    world, pair = world_of_facts(question.base, shown)
    return ("fails", world, pair)


def decide(book, claim):
    """("holds", papers) with a right case paper for each way, or ("fails", world, pair)."""
    papers = []
    for way in ways_of_law(book, claim):
        answer = _answer_of(Question(book, way, claim[1]))
        if answer[0] == "fails":
            return answer
        papers.append(answer[1])
    return ("holds", papers)


def holds(book, claim):
    """Whether a claim holds by a book."""
    return decide(book, claim)[0] == "holds"


def decide_way(book, claim, number):
    """("holds", paper) or ("fails", world, pair) for the way of this number alone."""
    return _answer_of(question_of(book, claim, number))
