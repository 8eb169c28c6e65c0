"""What the tests of terms share: a frame, and terms of any form."""

import random

from pairlaws.frames import Frame

FRAME = Frame(["a", "b"], [("r", "a", "b"), ("s", "b", "a"), ("t", "a", "a"), ("u", "b", "b")], [])
PARTS_BELOW = {"letter": 0, "same": 0, "other": 0, "none": 0, "all": 0, "rest": 1, "turned": 1, "joined": 2, "cut": 2,
               "then": 2, "closed": 1, "walked": 1}
R, S, T, U = [("letter", name) for name in "rstu"]


def chance_term(chance, ends, depth):
    """A term with these ends, nested at most so deep."""
    first, second = ends
    words = ["letter", "letter", "none", "all"] + (["same", "other"] if first == second else [])
    if depth > 1:
        words += ["rest", "turned", "joined", "cut", "then", "then"] + (["closed", "walked"] if first == second else [])
    word = chance.choice(words)
    if word == "letter":
        return ("letter", [name for name, *found in FRAME.letters() if tuple(found) == ends][0])
    if word in ("same", "other"):
        return (word, first)
    if word in ("none", "all"):
        return (word, first, second)
    if word == "turned":
        return (word, chance_term(chance, (second, first), depth - 1))
    if word == "then":
        middle = chance.choice("ab")
        return (word, chance_term(chance, (first, middle), depth - 1),
                chance_term(chance, (middle, second), depth - 1))
    return (word, *[chance_term(chance, ends, depth - 1) for _ in range(PARTS_BELOW[word])])


def chance_terms(count, depth, seed):
    chance = random.Random(seed)
    for _ in range(count):
        ends = (chance.choice("ab"), chance.choice("ab"))
        yield ends, chance_term(chance, ends, chance.randint(1, depth))


def below(term):
    return term[1:] if PARTS_BELOW[term[0]] else ()


def nested(word, inner, times):
    for _ in range(times):
        inner = (word, inner)
    return inner
