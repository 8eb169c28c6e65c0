"""All worlds with things of given numbers that obey a book, and worlds that are equal up to names (S7.6)."""

from itertools import permutations

from pairlaws.errors import BadWorld, MixedFrames, TooMany
from pairlaws.imaging import first_images
from pairlaws.tables import bits_of
from pairlaws.terms import ends_of, is_number_below, parts_below
from pairlaws.worlds import World

_MOST_THINGS = 4
_MOST_ATOMS = 12


def _check_sizes(frame, sizes):
    if not isinstance(sizes, dict):
        raise BadWorld(None)
    for sort in frame.sorts():
        if sort not in sizes or not is_number_below(sizes[sort], _MOST_THINGS + 1):
            raise BadWorld(sort)
    for key in sizes:
        if not frame.has_sort(key):
            raise BadWorld(key)


def _joined(numbers):
    joined = 0
    for number in numbers:
        joined = joined | number
    return joined


class Census:
    """The worlds over a frame with things of given numbers; world n has the atom k if bit k of n is 1.

    An atom is a possible pair (letter, i, j) of a letter, by the places of things. A set of worlds is one integer,
    whose bit n tells whether world n is in it: so one operation tells of all worlds at once whether they have a pair.
    """

    def __init__(self, base, sizes):
        self.base = base
        self.sizes = {sort: sizes[sort] for sort in base.sorts()}
        atoms = [(name, i, j) for name, first, second in base.letters()
                 for i in range(sizes[first]) for j in range(sizes[second])]
        if len(atoms) > _MOST_ATOMS:
            raise TooMany()
        # The last atom is the lowest bit, so that the numbers of the worlds ascend as their rows do.
        self.atoms = tuple(atoms[::-1])
        count = 1 << len(atoms)
        self.everywhere = (1 << count) - 1
        self.having = {atom: sum([1 << number for number in range(count) if number >> at & 1])
                       for at, atom in enumerate(self.atoms)}

    def _leaf(self, term, i, j):
        """The worlds in which a pair of places is in the worth of a term without parts."""
        if term[0] == "letter":
            return self.having[term[1], i, j]
        if term[0] == "all" or (term[0] == "same" and i == j) or (term[0] == "other" and i != j):
            return self.everywhere
        return 0

    def _closed(self, some, sort):
        found = some
        for k in range(self.sizes[sort]):
            found = {(i, j): found[i, j] | (found[i, k] & found[k, j]) for i, j in found}
        return found

    def _of_one(self, word, some, sort):
        if word == "rest":
            return {spot: self.everywhere & ~some[spot] for spot in some}
        if word == "turned":
            return {(j, i): some[i, j] for i, j in some}
        found = self._closed(some, sort)
        if word == "walked":
            return {(i, j): self.everywhere if i == j else found[i, j] for i, j in found}
        return found

    def _of_two(self, word, some, others, sorts):
        """The same for a joined, cut or then; sorts are its first, its middle and its last one."""
        if word == "joined":
            return {spot: some[spot] | others[spot] for spot in some}
        if word == "cut":
            return {spot: some[spot] & others[spot] for spot in some}
        first, middle, last = [list(range(self.sizes[sort])) for sort in sorts]
        return {(i, j): _joined([some[i, k] & others[k, j] for k in middle]) for i in first for j in last}

    def where(self, term):
        """A dict that maps each pair of places of the ends of a term to the worlds in whose worth it is."""
        first, last = ends_of(self.base, term)
        below = [self.where(part) for part in parts_below(term)]
        if len(below) == 2:
            return self._of_two(term[0], below[0], below[1], (first, ends_of(self.base, term[1])[1], last))
        if len(below) == 1:
            return self._of_one(term[0], below[0], first)
        return {(i, j): self._leaf(term, i, j) for i in range(self.sizes[first]) for j in range(self.sizes[last])}

    def _breaking_total(self, name, word):
        found = self.where(("letter", name) if word == "on" else ("turned", ("letter", name)))
        having = {i: 0 for i in range(self.sizes[_start_of(self.base, name, word)])}
        for i, j in found:
            having[i] = having[i] | found[i, j]
        return _joined([self.everywhere & ~having[i] for i in having])

    def _breaking_premise(self, p, q):
        some, others = self.where(p), self.where(q)
        return _joined([some[spot] & ~others[spot] for spot in some])

    def obeying(self, book):
        """The ascending list of the numbers of the worlds that obey a book."""
        broken = [self._breaking_total(name, word) for name, word in self.base.totals()]
        broken.extend([self._breaking_premise(p, q) for p, q in book.premises()])
        return bits_of(self.everywhere & ~_joined(broken))

    def world(self, number):
        things = {sort: [f"t{place}" for place in range(self.sizes[sort])] for sort in self.sizes}
        pairs = {letter[0]: [] for letter in self.base.letters()}
        for at, (name, i, j) in enumerate(self.atoms):
            if number >> at & 1:
                pairs[name].append((f"t{i}", f"t{j}"))
        return World(self.base, things, pairs)


def _start_of(frame, name, word):
    """The sort whose things need a partner by a total."""
    return frame.ends(name)[0 if word == "on" else 1]


def _census(book, sizes):
    """The census of the worlds for a book; sizes may be any value."""
    _check_sizes(book.frame(), sizes)
    return Census(book.frame(), sizes)


def all_worlds(book, sizes):
    """The list of all worlds that obey a book and have things t0, t1, .. of each sort; sizes may be any value."""
    census = _census(book, sizes)
    return [census.world(number) for number in census.obeying(book)]


def count_worlds(book, sizes):
    """The number of the worlds that all_worlds tells."""
    return len(_census(book, sizes).obeying(book))


def alike_worlds(world, other):
    """Any dict of lists of things that leads a world one to one to another one, or None."""
    if world.frame() != other.frame():
        raise MixedFrames()
    return first_images(world, other, True)


def _renamings(census):
    """The list of all dicts that map each sort with atoms to a tuple of its places in any order."""
    ends = [census.base.ends(name) for name, _, _ in census.atoms]
    found = [{}]
    for sort in census.sizes:
        places = list(range(census.sizes[sort]))
        if any([sort in both for both in ends]):
            orders = list(permutations(places))
        else:
            orders = [tuple(places)]
        found = [{**renaming, sort: order} for renaming in found for order in orders]
    return found


def _renamed_bits(census, renaming):
    """For each atom the bit of the atom to which a renaming leads it."""
    bit_of = {atom: 1 << at for at, atom in enumerate(census.atoms)}
    bits = []
    for name, i, j in census.atoms:
        first, second = census.base.ends(name)
        bits.append(bit_of[name, renaming[first][i], renaming[second][j]])
    return bits


def unlike_worlds(book, sizes):
    """The list of the worlds of all_worlds without those that are equal up to names to one ahead of them."""
    census = _census(book, sizes)
    renamings = [_renamed_bits(census, renaming) for renaming in _renamings(census)]
    met = {}
    kept = []
    for number in census.obeying(book):
        if number not in met:
            kept.append(number)
            for bits in renamings:
                met[sum([bits[at] for at in bits_of(number)])] = True
    return [census.world(number) for number in kept]
