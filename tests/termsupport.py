"""What the tests of terms share: a frame, and terms of any form."""

import random

from pairlaws.frames import Frame
from pairlaws.worlds import World

FRAME = Frame(["a", "b"], [("r", "a", "b"), ("s", "b", "a"), ("t", "a", "a"), ("u", "b", "b")], [])
PARTS_BELOW = {"letter": 0, "same": 0, "other": 0, "none": 0, "all": 0, "rest": 1, "turned": 1, "joined": 2, "cut": 2,
               "then": 2, "closed": 1, "walked": 1}
R, S, T, U = [("letter", name) for name in "rstu"]


def chance_term(chance, ends, depth, without=(), frame=FRAME):
    """A term with these ends, nested at most so deep, that contains none of some words."""
    first, second = ends
    letters = [name for name, *found in frame.letters() if tuple(found) == ends]
    words = ["letter", "letter"] * bool(letters) + ["none", "all"] + (["same", "other"] if first == second else [])
    if depth > 1:
        words += ["rest", "turned", "joined", "cut", "then", "then"] + (["closed", "walked"] if first == second else [])
    word = chance.choice([word for word in words if word not in without])
    if word == "letter":
        return ("letter", letters[0] if len(letters) == 1 else chance.choice(letters))
    if word in ("same", "other"):
        return (word, first)
    if word in ("none", "all"):
        return (word, first, second)
    if word == "turned":
        return (word, chance_term(chance, (second, first), depth - 1, without, frame))
    if word == "then":
        middle = chance.choice(frame.sorts())
        return (word, chance_term(chance, (first, middle), depth - 1, without, frame),
                chance_term(chance, (middle, second), depth - 1, without, frame))
    inner = (*without, "then", "closed", "walked") if word == "rest" and KEPT in without else without
    return (word, *[chance_term(chance, ends, depth - 1, inner, frame) for _ in range(PARTS_BELOW[word])])


def chance_terms(count, depth, seed, without=()):
    chance = random.Random(seed)
    for _ in range(count):
        ends = (chance.choice("ab"), chance.choice("ab"))
        yield ends, chance_term(chance, ends, chance.randint(1, depth), without)


# Among the words that a term does not contain, this one asks for kept terms.
KEPT = "kept"
FLAT = ("then", "closed", "walked")
SHORT = (KEPT, "closed", "walked")
PLAIN = ("rest", "other", "closed", "walked")


def chance_world(chance, frame, words=("n1", "n0", "n2", "n3")):
    """A world with at most three things of each sort; the sorts share words."""
    things = {sort: chance.sample(words, chance.randint(0, 3)) for sort in frame.sorts()}
    density = chance.choice([0.2, 0.5, 0.8])
    pairs = {name: [(x, y) for x in things[first] for y in things[second] if chance.random() < density]
             for name, first, second in frame.letters()}
    return World(frame, things, pairs)


def chance_worlds(count, seed, frame=FRAME, words=("n1", "n0", "n2", "n3")):
    chance = random.Random(seed)
    for _ in range(count):
        yield chance_world(chance, frame, words)


def below(term):
    return term[1:] if PARTS_BELOW[term[0]] else ()


def nested(word, inner, times):
    for _ in range(times):
        inner = (word, inner)
    return inner
