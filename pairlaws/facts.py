"""What is known of the places of a way, and where terms are surely so by it (S6.3 to S6.5)."""

from pairlaws.tables import bits_of


class Facts:
    """What is known: which places are one and which are not, and of each letter which pairs are in it and which not."""

    def __init__(self, tables, same, unlike, yes, no):
        self.tables = tables
        self.same = same
        self.unlike = unlike
        self.yes = dict(yes)
        self.no = dict(no)

    def clashes(self):
        """Whether something is known to be so and known not to be so."""
        return self.same & self.unlike != 0 or any([self.yes[name] & self.no[name] != 0 for name in self.yes])

    def class_row(self, place):
        """The row of the places that are one with this place."""
        return self.tables.row(self.same, place)

    def least_places(self):
        """The list of the least places of all classes."""
        return [place for place in range(self.tables.count) if self.class_row(place) & ((1 << place) - 1) == 0]

    def block(self, i, j):
        """The table of each place of the class of i with each place of the class of j."""
        return self.tables.block(self.class_row(i), self.class_row(j))

    def answers(self, atom):
        """Whether an atom is known to be true, and whether it is known to be false."""
        i, j = atom[-2], atom[-1]
        so = self.yes[atom[1]] if atom[0] == "letter" else self.same
        not_so = self.no[atom[1]] if atom[0] == "letter" else self.unlike
        return (self.tables.has(so, i, j), self.tables.has(not_so, i, j))


def nothing_known(frame, tables):
    """The facts of a branch without answers."""
    none = {letter[0]: 0 for letter in frame.letters()}
    return Facts(tables, tables.same, 0, none, none)


def _with_places_made_one(facts, i, j):
    tables = facts.tables
    same = tables.closed(facts.same | tables.cell(i, j) | tables.cell(j, i))

    def spread(table):
        return tables.then(same, tables.then(table, same))

    yes = {name: spread(facts.yes[name]) for name in facts.yes}
    no = {name: spread(facts.no[name]) for name in facts.no}
    return Facts(tables, same, spread(facts.unlike), yes, no)


def with_answer(facts, atom, answer):
    """The facts after one more atom has got an answer."""
    i, j = atom[-2], atom[-1]
    if atom[0] == "same":
        if answer:
            return _with_places_made_one(facts, i, j)
        unlike = facts.unlike | facts.block(i, j) | facts.block(j, i)
        return Facts(facts.tables, facts.same, unlike, facts.yes, facts.no)
    grown = Facts(facts.tables, facts.same, facts.unlike, facts.yes, facts.no)
    side = grown.yes if answer else grown.no
    side[atom[1]] = side[atom[1]] | facts.block(i, j)
    return grown


def _sure_literal(facts, term, is_so):
    """The table of the places at which a letter or a turned letter is known to be so, or known not to be so."""
    if term[0] == "turned":
        return facts.tables.turned(_sure_literal(facts, term[1], is_so))
    name = term[1]
    # What is known both ways counts as so.
    return facts.yes[name] if is_so else facts.no[name] & ~facts.yes[name]


def _sure_of_sorts(facts, term):
    tables = facts.tables
    word = term[0]
    if word == "none":
        return 0
    between = tables.between(term[1], term[-1])
    if word == "all":
        return between
    return facts.same & between if word == "same" else facts.unlike & ~facts.same & between


def sure(facts, term):
    """The table of the places at which a kept term in its pushed form is surely so."""
    word = term[0]
    if word in ("letter", "turned"):
        return _sure_literal(facts, term, True)
    if word == "rest":
        return _sure_literal(facts, term[1], False)
    if word in ("same", "other", "none", "all"):
        return _sure_of_sorts(facts, term)
    table = sure(facts, term[1])
    if word == "closed":
        return facts.tables.closed(table)
    if word == "walked":
        # This tells of places of all sorts, which is more than is asked: no term leads from or to other sorts here.
        return facts.tables.closed(table) | facts.same
    other = sure(facts, term[2])
    if word == "joined":
        return table | other
    return table & other if word == "cut" else facts.tables.then(table, other)


def classes_of(facts):
    """The list of the classes of the places, in the order of their least places."""
    return [bits_of(facts.class_row(place)) for place in facts.least_places()]
