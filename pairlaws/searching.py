"""The search for a case paper of a way, or for facts whose plain world shows that the claim fails (S6.7).

The search asks for one atom after the other until some leaf is let by. Between two answers it looks at the plain world
of what is known, where all that is open is false. If no leaf is let by there, that world shows that the claim fails.
Otherwise it takes a leaf that is let by there, finds atoms that must be false for it, and asks for one of these: if the
answer is False, the leaf is one atom nearer, and if it is True, the plain world has become another one. So it never
asks for an atom that does not matter, and what follows step by step costs one case for each step.
"""

from pairlaws.cases import first_wrong_below
from pairlaws.facts import Facts, nothing_known, with_answer
from pairlaws.questions import broken_table, is_held, is_off, lets_by


def _off_leaves(question, facts):
    return [("off", k) for k in range(len(question.denied_marks)) if is_off(question, facts, k)]


def _broken_leaves(question, facts, n):
    return [("broken", n, i, j) for i, j in question.tables.cells(broken_table(question, facts, n))]


def _leaves_let_by(question, facts):
    """The list of all leaves that are let by for facts that do not clash."""
    found = _off_leaves(question, facts)
    for n in range(len(question.rules)):
        found.extend(_broken_leaves(question, facts, n))
    return found + [("held",)] if is_held(question, facts) else found


def _any_leaf(question, facts):
    """Any leaf that is let by, or None."""
    if facts.clashes():
        return ("clash",)
    found = _off_leaves(question, facts)
    if found:
        return found[0]
    for n in range(len(question.rules)):
        found = _broken_leaves(question, facts, n)
        if found:
            return found[0]
    return ("held",) if is_held(question, facts) else None


def _completed(question, facts):
    """The facts after each atom without an answer has got the answer False."""
    tables = facts.tables
    unlike = sum([tables.between(sort, sort) for sort in question.base.sorts()]) & ~facts.same
    no = {name: tables.between(first, second) & ~facts.yes[name] for name, first, second in question.base.letters()}
    return Facts(tables, facts.same, unlike, facts.yes, no)


def _open_atoms(question, facts):
    """The list of the atoms without an answer that count, each told of the least places of two classes."""
    tables = facts.tables
    least = facts.least_places()
    found = []
    for name in question.letters_that_count:
        first, second = question.base.ends(name)
        free = tables.between(first, second) & ~facts.yes[name] & ~facts.no[name]
        found.extend([("letter", name, i, j) for i, j in tables.cells(free) if i in least and j in least])
    pairs = [(i, j) for i in least for j in least if i < j and tables.sort_of[i] == tables.sort_of[j]]
    return found + [("same", i, j) for i, j in pairs if not tables.has(facts.unlike, i, j)]


def _reopened(facts, atom):
    """The facts after the answer False of an atom has been taken back."""
    i, j = atom[-2], atom[-1]
    less = Facts(facts.tables, facts.same, facts.unlike, facts.yes, facts.no)
    if atom[0] == "same":
        less.unlike = less.unlike & ~facts.block(i, j) & ~facts.block(j, i)
    else:
        less.no[atom[1]] = less.no[atom[1]] & ~facts.block(i, j)
    return less


def _needed_for(question, completed, leaf, atoms):
    """Some of the atoms that together must be false for a leaf, none of which can be spared."""
    facts = completed
    needed = []
    for atom in atoms:
        less = _reopened(facts, atom)
        if lets_by(question, less, leaf):
            facts = less
        else:
            needed.append(atom)
    return needed


def _ends_at_once(question, facts, atoms):
    """A dict that tells for each of the atoms whether some leaf is let by if it is true."""
    return {atom: _any_leaf(question, with_answer(facts, atom, True)) is not None for atom in atoms}


def _atom_to_ask(question, facts, completed):
    """The atom to ask for: one that the leaf needs for which the fewest cases stay open."""
    atoms = _open_atoms(question, facts)
    best, fewest = [], len(atoms) + 1
    for leaf in _leaves_let_by(question, completed):
        needed = _needed_for(question, completed, leaf, atoms)
        ends = _ends_at_once(question, facts, needed)
        staying = [atom for atom in needed if not ends[atom]]
        if len(staying) < fewest:
            # First the atoms that cannot be true: to ask for them costs one leaf and opens no other case.
            best, fewest = [atom for atom in needed if ends[atom]] + staying, len(staying)
        if fewest <= 1:
            break
    return best[0]


def _searched(question, facts):
    leaf = _any_leaf(question, facts)
    if leaf is not None:
        return (leaf, None)
    completed = _completed(question, facts)
    if _any_leaf(question, completed) is None:
        return (None, facts)
    atom = _atom_to_ask(question, facts, completed)
    sides = []
    for answer in (True, False):
        paper, shown = _searched(question, with_answer(facts, atom, answer))
        # A side that is right without its answer needs no case, and the other side need not be searched.
        if paper is None or first_wrong_below(question, facts, paper) is None:
            return (paper, shown)
        sides.append(paper)
    return (("case", atom, sides[0], sides[1]), None)


def searched(question):
    """(paper, None) with a right case paper, or (None, facts) whose plain world shows that the claim fails."""
    return _searched(question, nothing_known(question.base, question.tables))
