"""What the tests of part 9 share: states, and deeds of all kinds."""

from pairlaws.books import Book, obeys
from pairlaws.deeds import in_order
from pairlaws.frames import Frame
from pairlaws.termtexts import read_term
from pairlaws.worlds import World
from tests.termsupport import FLAT, FRAME, KEPT, chance_term

ON = Frame(["a", "b"], [("r", "a", "b"), ("s", "b", "a"), ("t", "a", "a"), ("u", "b", "b")], [("r", "on")])
WORDS = ["x", "y", "z", "w", "v"]
NAMES = ["n", "m", "v2", "v10"]


def premise(frame, text):
    return tuple([read_term(frame, part) for part in text.split(" <= ")])


def state_of(texts, things, pairs, views=None, frame=FRAME):
    """A state: premises by their texts, pairs of some letters, views by name."""
    told = {name: pairs.get(name, []) for name, _, _ in frame.letters()}
    premises = [premise(frame, text) for text in texts]
    return in_order(Book(frame, premises), World(frame, things, told), views or {})


def chance_premise(chance, frame):
    ends = (chance.choice("ab"), chance.choice("ab"))
    return (chance_term(chance, ends, 2, (KEPT,), frame), chance_term(chance, ends, 2, FLAT, frame))


def chance_view(chance, frame):
    return chance_term(chance, (chance.choice("ab"), chance.choice("ab")), 3, (), frame)


def chance_state(chance, frame=FRAME):
    """A state with few things, whose book is what its world happens to obey of some premises."""
    while True:
        things = {sort: chance.sample(WORDS, chance.randint(0, 3)) for sort in frame.sorts()}
        density = chance.choice([0.2, 0.5, 0.8])
        pairs = {name: [(x, y) for x in things[first] for y in things[second] if chance.random() < density]
                 for name, first, second in frame.letters()}
        world = World(frame, things, pairs)
        if obeys(Book(frame, []), world):
            break
    premises = [chance_premise(chance, frame) for _ in range(4)]
    kept = [one for one in premises if obeys(Book(frame, [one]), world)]
    views = {name: chance_view(chance, frame) for name in chance.sample(NAMES, chance.randint(0, 3))}
    return in_order(Book(frame, kept), world, views)


def chance_deed(chance, state, within=False):
    """A deed of any kind, that may or may not be possible."""
    book, world, views = state
    frame = book.frame()
    word = chance.choice(["put", "take", "add", "leave", "name", "unname", "let", "unlet"] + ["all"] * (not within))
    if word == "all":
        return ("all", tuple([chance_deed(chance, state, True) for _ in range(chance.randint(0, 3))]))
    if word in ("put", "take"):
        name, first, second = chance.choice(frame.letters())
        told = [world.relation(name).pairs() if word == "take" else [], [(chance.choice(WORDS), chance.choice(WORDS))]]
        some = [(x, y) for x in world.things(first) for y in world.things(second)]
        x, y = chance.choice(told[0] or some or told[1])
        return (word, name, x, y)
    if word in ("add", "leave"):
        sort = chance.choice(frame.sorts())
        return (word, sort, chance.choice(WORDS))
    if word == "name":
        return (word, chance.choice(NAMES), chance_view(chance, frame))
    if word == "unname":
        return (word, chance.choice(NAMES))
    if word == "unlet" and book.premises():
        return (word, *chance.choice(book.premises()))
    return (word, *chance_premise(chance, frame))
