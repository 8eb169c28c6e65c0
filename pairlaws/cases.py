"""Claims, their ways, and case papers: trees of cases that show that a claim holds (S6.1, S6.6)."""

from pairlaws.errors import BadPaper, MixedEnds, NotKept, NotShort
from pairlaws.facts import nothing_known, with_answer
from pairlaws.forms import is_kept, is_short
from pairlaws.known import atoms_of, facts_of, is_atom
from pairlaws.questions import Question, lets_by
from pairlaws.terms import ends_of_both
from pairlaws.ways import made, ways

_NUMBERS_OF_LEAF = {"clash": 0, "off": 1, "broken": 3, "held": 0}


def check_law(frame, claim):
    """Raise the errors of a claim, which may be any value."""
    ends, others = ends_of_both(frame, claim)
    if not is_short(claim[0]):
        raise NotShort()
    if not is_kept(claim[1]):
        raise NotKept(0)
    if ends != others:
        raise MixedEnds(0)


def ways_of_law(book, claim):
    """The list of the ways of a claim, each with its made places."""
    check_law(book.frame(), claim)
    return [made(book, way) for way in ways(book.frame(), claim[0])]


def bound(book, claim):
    """The greatest number of places of a way of a claim."""
    return max([len(way[0]) for way in ways_of_law(book, claim)])


def question_of(book, claim, number):
    """What is asked of the way of this number."""
    return Question(book, ways_of_law(book, claim)[number], claim[1])


def is_case(value):
    """Whether a value, which may be any value, has the form of a case."""
    return isinstance(value, tuple) and len(value) == 4 and value[0] == "case"


def _is_leaf(value):
    """Whether a value, which may be any value, has the form of a leaf."""
    if not isinstance(value, tuple) or not value or not isinstance(value[0], str):
        return False
    if len(value) - 1 != _NUMBERS_OF_LEAF.get(value[0]):
        return False
    return all([isinstance(number, int) and not isinstance(number, bool) for number in value[1:]])


def is_let_by(book, claim, number, branch, leaf):
    """Whether a leaf, which may be any value, is a leaf that is let by for a branch, which is a list of any values."""
    question = question_of(book, claim, number)
    facts = facts_of(book.frame(), question.way, branch)
    return _is_leaf(leaf) and lets_by(question, facts, leaf)


def _fault_of_node(question, atoms, facts, node):
    """The word that tells what is wrong of a node, its own nodes left aside, or None."""
    if is_case(node):
        return None if is_atom(atoms, node[1]) else "atom"
    if not _is_leaf(node):
        return "form"
    return None if lets_by(question, facts, node) else node[0]


def first_wrong_below(question, start, paper):
    """The first wrong node of a paper, which may be any value, below a branch that tells these facts, or None."""
    atoms = atoms_of(question.base, question.way)
    waiting = [((), paper, start)]
    while waiting:
        path, node, facts = waiting.pop()
        word = _fault_of_node(question, atoms, facts, node)
        if word is not None:
            return (path, word)
        if is_case(node):
            _, atom, yes, no = node
            waiting.append((path + (1,), no, with_answer(facts, atom, False)))
            waiting.append((path + (0,), yes, with_answer(facts, atom, True)))
    return None


def _first_wrong(question, paper):
    return first_wrong_below(question, nothing_known(question.base, question.tables), paper)


def first_wrong(book, claim, number, paper):
    """The first wrong node of a paper, which may be any value, as (path, word), or None."""
    return _first_wrong(question_of(book, claim, number), paper)


def leaves(paper):
    """The list of the (path, branch, leaf) of all leaves of a right paper."""
    found = []
    waiting = [((), [], paper)]
    while waiting:
        path, branch, node = waiting.pop()
        if is_case(node):
            _, atom, yes, no = node
            waiting.append((path + (1,), branch + [(atom, False)], no))
            waiting.append((path + (0,), branch + [(atom, True)], yes))
        else:
            found.append((path, branch, node))
    return found


def _weeded(facts, node):
    if not is_case(node):
        return node
    _, atom, yes, no = node
    is_so, is_not_so = facts.answers(atom)
    if is_so and is_not_so:
        return ("clash",)
    if is_so or is_not_so:
        return _weeded(facts, yes if is_so else no)
    return ("case", atom, _weeded(with_answer(facts, atom, True), yes), _weeded(with_answer(facts, atom, False), no))


def weeded(book, claim, number, paper):
    """The paper, which may be any value, without the cases whose answers are known."""
    question = question_of(book, claim, number)
    if _first_wrong(question, paper) is not None:
        raise BadPaper()
    return _weeded(nothing_known(question.base, question.tables), paper)
