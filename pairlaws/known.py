"""Atoms of ways, and what a branch of answers tells (S6.2 to S6.5, S6.8)."""

from pairlaws.errors import BadPaper
from pairlaws.facts import classes_of, nothing_known, sure, with_answer
from pairlaws.forms import pushed
from pairlaws.tables import Tables, bits_of
from pairlaws.worlds import World


def _places_of_sort(sorts, sort):
    return [place for place, found in enumerate(sorts) if found == sort]


def atoms_of(frame, way):
    """The list of the atoms of a way."""
    sorts = way[0]
    found = []
    for name, first, second in frame.letters():
        found.extend([("letter", name, i, j) for i in _places_of_sort(sorts, first)
                      for j in _places_of_sort(sorts, second)])
    return found + [("same", i, j) for i in range(len(sorts)) for j in range(i + 1, len(sorts)) if sorts[i] == sorts[j]]


def is_atom(atoms, value):
    """Whether a value, which may be any value, is one of some atoms."""
    # True and False are equal to numbers, so that a look into the list would not tell them apart.
    if not isinstance(value, tuple) or any([isinstance(member, bool) for member in value]):
        return False
    return value in atoms


def facts_of(frame, way, branch):
    """What is known by a branch, which is a list of any values."""
    atoms = atoms_of(frame, way)
    facts = nothing_known(frame, Tables(way[0]))
    for entry in branch:
        if not isinstance(entry, tuple) or len(entry) != 2 or not is_atom(atoms, entry[0]):
            raise BadPaper()
        atom, answer = entry
        if answer is not True and answer is not False:
            raise BadPaper()
        facts = with_answer(facts, atom, answer)
    return facts


class Known:
    """What is known by a branch of a way."""

    def __init__(self, frame, way, branch):
        self._facts = facts_of(frame, way, branch)

    def classes(self):
        return classes_of(self._facts)

    def has_clash(self):
        return self._facts.clashes()

    def surely(self, term, i, j):
        if self.surely_so(term, i, j):
            return "yes"
        return "no" if self.surely_so(("rest", term), i, j) else "open"

    def surely_so(self, term, i, j):
        return self._facts.tables.has(sure(self._facts, pushed(term)), i, j)


def world_of_facts(frame, facts):
    """The plain world of facts that do not clash, and its first pair."""
    tables = facts.tables
    least = facts.least_places()
    things = {sort: [f"p{place}" for place in least if tables.sort_of[place] == sort] for sort in frame.sorts()}
    pairs = {letter[0]: [(f"p{i}", f"p{j}") for i, j in tables.cells(facts.yes[letter[0]]) if i in least and j in least]
             for letter in frame.letters()}
    first_pair = tuple([f"p{bits_of(facts.class_row(place))[0]}" for place in (0, 1)])
    return (World(frame, things, pairs), first_pair)


def plain_world(frame, way, branch):
    """The plain world of a way and a branch, and its first pair."""
    facts = facts_of(frame, way, branch)
    if facts.clashes():
        raise BadPaper()
    return world_of_facts(frame, facts)
