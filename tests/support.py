"""What the tests share: a way to ask for errors, odd values, and all small relations."""

import itertools
import random
import unittest

from pairlaws.books import Book
from pairlaws.errors import NameMissing, PairError
from pairlaws.frames import Frame
from pairlaws.maps import same_map
from pairlaws.relations import Relation
from pairlaws.stores import Store
from pairlaws.worlds import World


class Case(unittest.TestCase):
    def fails(self, error, told, call, *args):
        """The call raises just this error, with just these attributes, and changes no argument."""
        before = written(args)
        with self.assertRaises((PairError, NameMissing)) as caught:
            call(*args)
        self.assertIs(type(caught.exception), error)
        self.assertEqual(written(vars(caught.exception)), written(told))
        self.assertEqual(written(args), before)

    def unchanged(self, call, *args):
        """What the call returns; it changes no argument."""
        before = written(args)
        result = call(*args)
        self.assertEqual(written(args), before)
        return result

    def told_anew(self, call, *args):
        """No list or dict in what the call returns is another one in it, is an argument's, or comes again."""
        first, second = call(*args), call(*args)
        lists = lists_in(first) + lists_in(second) + lists_in(args)
        self.assertEqual(len({id(one) for one in lists}), len(lists))
        kept = written(second)
        for one in lists_in(first):
            one.clear()
        self.assertEqual(written(call(*args)), kept)

    def judged(self, judge, args, right):
        """The judge says True of the right values, and False of all odd values that are not among them."""
        for value in right:
            self.assertIs(self.unchanged(judge, *args, value), True)
        for value in ODD_VALUES:
            if written(value) not in [written(one) for one in right]:
                self.assertIs(self.unchanged(judge, *args, value), False, written(value))


def written(value):
    """A text of a value. Other than ==, it tells True from 1, and a list from a tuple."""
    if isinstance(value, Relation):
        return f"Relation({value.sources()}, {value.targets()}, {value.pairs()})"
    if isinstance(value, Frame):
        return f"Frame({value.sorts()}, {value.letters()}, {value.totals()})"
    if isinstance(value, World):
        return f"World({written(value.frame())}, {written(value.told())})"
    if isinstance(value, Book):
        return f"Book({written(value.frame())}, {written(value.premises())})"
    if isinstance(value, dict):
        return "{" + ", ".join([f"{written(key)}: {written(value[key])}" for key in value]) + "}"
    if isinstance(value, (list, tuple)):
        return ("[{}]" if isinstance(value, list) else "({})").format(", ".join([written(one) for one in value]))
    if value is None or isinstance(value, (int, str)):
        return repr(value)
    return type(value).__name__


def lists_in(value):
    """All lists and dicts in a value."""
    found = [value] if isinstance(value, (list, dict)) else []
    inner = list(value.values()) if isinstance(value, dict) else value if isinstance(value, (list, tuple)) else []
    return found + [one for part in inner for one in lists_in(part)]


RELATION = Relation(["a"], ["a"], [("a", "a")])
SMALL_WORLD = World(Frame(["a"], [], []), {"a": ["a"]}, {})
NOT_WORDS = [None, 0, 1, True, False, "", "A", "1a", "a b", "a_", "abcdefghijklm", "\u00e9", "a\u00b2", "a\n",
             ("a",), (), ["a"], [], {"a": "b"}, {}, 10 ** 30]
ODD_VALUES = NOT_WORDS + [RELATION, PairError(), ("a", "b"), ["a", "b"], [("a", "b")], ([], []), (["a"], ["b"]),
                          [["a"]], ({}, {}), ("row", None), ("ring",), (1, 2, 3), [[], {}], (RELATION, RELATION),
                          SMALL_WORLD, SMALL_WORLD.frame(), Book(SMALL_WORLD.frame(), []), same_map(SMALL_WORLD),
                          Store(Book(SMALL_WORLD.frame(), []), SMALL_WORLD, {})]


def relations_between(sources, targets):
    """All relations between two lists of names."""
    spots = [(x, y) for x in sources for y in targets]
    for chosen in itertools.product([False, True], repeat=len(spots)):
        yield Relation(sources, targets, [spot for spot, taken in zip(spots, chosen) if taken])


def square_relations(most):
    """All relations on at most so many names."""
    for count in range(most + 1):
        names = ["n2", "n1", "n3", "n0"][:count]
        yield from relations_between(names, names)


def small_relations():
    """All relations of some small shapes, with other and with the same names on both sides."""
    shapes = [([], []), ([], ["a"]), (["a"], []), (["b", "a"], ["c"]), (["b", "a"], ["a", "b"]),
              (["b", "a"], ["b", "a"]), (["c", "a", "b"], ["a", "z"]), (["a"], ["z", "y", "a"])]
    for sources, targets in shapes:
        yield from relations_between(sources, targets)


def chance_relations(sources, targets, count, seed):
    """Some relations of any density; always the same ones."""
    chance = random.Random(seed)
    for _ in range(count):
        density = chance.random()
        pairs = [(x, y) for x in sources for y in targets if chance.random() < density]
        yield Relation(sources, targets, pairs)


def names_of(count):
    return [f"n{(number * 5 + 3) % 8}" for number in range(count)]
