"""The search for images of the things of a world in another one, by which pairs are led to pairs.

A spot is a thing of the source, with its sort. The images that are still possible for a spot are kept as one integer,
its choices: bit k stands for the thing at place k of this sort in the target.
"""

from pairlaws.tables import bits_of


def _rows_of(r):
    """For each source of a relation the integer of the places of its targets."""
    targets = r.targets()
    return tuple([sum([1 << targets.index(y) for y in r.row(x)]) for x in r.sources()])


def _sides_of(source, target):
    """For each letter, in both directions: its ends, its pairs in the source, and its rows in the target."""
    sides = []
    for name, first, second in source.frame().letters():
        r, s = source.relation(name), target.relation(name)
        sides.append((first, second, r, _rows_of(s)))
        sides.append((second, first, r.turned(), _rows_of(s.turned())))
    return sides


class Images:
    """Which images of spots go together.

    If the images are exact, no two things have the same one, and what is no pair is led to what is no pair.
    """

    def __init__(self, source, target, exact):
        sorts = source.frame().sorts()
        self.exact = exact
        self.sides = tuple(_sides_of(source, target))
        self.full = {sort: (1 << len(target.things(sort))) - 1 for sort in sorts}
        self.spots = tuple([(sort, x) for sort in sorts for x in source.things(sort)])

    def _going_with(self, at, image, other):
        """The choices of a spot, perhaps the same one, that go with an image of a spot."""
        sort, x = self.spots[at]
        further, y = self.spots[other]
        choices = self.full[further]
        if self.exact and sort == further:
            choices = 1 << image if at == other else choices & ~(1 << image)
        for first, second, r, rows in self.sides:
            if first == sort and second == further:
                if (x, y) in r:
                    choices = choices & rows[image]
                elif self.exact:
                    choices = choices & ~rows[image]
        return choices

    def first_choices(self):
        """The choices of each spot, as far as it goes with itself."""
        found = []
        for at, (sort, _) in enumerate(self.spots):
            images = bits_of(self.full[sort])
            found.append(sum([1 << image for image in images if self._going_with(at, image, at) >> image & 1]))
        return tuple(found)

    def links(self):
        """For each spot the list of the spots that depend on its image, with the choices that go with each image."""
        found = []
        for at, (sort, _) in enumerate(self.spots):
            images = bits_of(self.full[sort])
            links = []
            for other, (further, _) in enumerate(self.spots):
                table = [self._going_with(at, image, other) for image in images]
                if other != at and any([choices != self.full[further] for choices in table]):
                    links.append((other, table))
            found.append(links)
        return found


def _joined(table, images):
    joined = 0
    for image in images:
        joined = joined | table[image]
    return joined


def _settled(links, choices, changed):
    """The choices without those that go with no choice of a linked spot, or None if a spot has none left."""
    kept = list(choices)
    waiting = list(changed)
    while waiting:
        at = waiting.pop()
        images = bits_of(kept[at])
        for other, table in links[at]:
            left = kept[other] & _joined(table, images)
            if left == 0:
                return None
            if left != kept[other]:
                kept[other] = left
                waiting.append(other)
    return tuple(kept)


def _chosen(links, choices, at):
    """What is left of all choices with each choice of a spot, in order, if anything is left of each."""
    found = []
    for image in bits_of(choices[at]):
        settled = _settled(links, choices[:at] + (1 << image,) + choices[at + 1:], [at])
        if settled is not None:
            found.append(settled)
    return found


def _is_open(left):
    """Whether a spot with these choices has more than one."""
    return left & (left - 1) != 0


def _is_narrower(one, other):
    """Whether a spot has fewer choices for each of its links than another one; each is given as (choices, links)."""
    return one[0] * other[1] < other[0] * one[1]


def _next_open(links, choices):
    """The open spot with the fewest choices for each of its links, or None if no spot is open."""
    sizes = [(len(bits_of(left)), len(links[at]) + 1) for at, left in enumerate(choices)]
    best = None
    for at, left in enumerate(choices):
        if _is_open(left) and (best is None or _is_narrower(sizes[at], sizes[best])):
            best = at
    return best


def _found_choices(links, choices, most):
    """At most so many of the choices, in no order, that leave each spot one image and go together."""
    found = []
    failed = {}
    waiting = [(choices, None)]
    while waiting and len(found) < most:
        left, count = waiting.pop()
        # Settled choices leave to the open spots only what goes with all others: what failed once fails again.
        key = tuple([one if _is_open(one) else 0 for one in left])
        if count is not None:
            if len(found) == count:
                failed[key] = True
        elif key not in failed:
            at = _next_open(links, left)
            if at is None:
                found.append(left)
            else:
                waiting.append((left, len(found)))
                waiting.extend([(further, None) for further in _chosen(links, left, at)[::-1]])
    return found


def _first_possible(links, several):
    """The first of several choices that can be made to leave each spot one image, of which there is one."""
    for choices in several[:-1]:
        if _found_choices(links, choices, 1):
            return choices
    return several[-1]


def _first_choices(links, choices):
    """The first choices, by the places of the images, that leave each spot one image and go together, or None."""
    if not _found_choices(links, choices, 1):
        return None
    left = choices
    for at in range(len(choices)):
        left = _first_possible(links, _chosen(links, left, at))
    return left


def _start(source, target, exact):
    """The links of all spots, and the choices with which the search begins, or None if there are no images."""
    asked = Images(source, target, exact)
    choices = asked.first_choices()
    links = asked.links()
    settled = None if 0 in choices else _settled(links, choices, list(range(len(choices))))
    return (links, settled)


def _images_of(source, target, choices):
    """The dict of lists of the images of choices that leave each spot one image."""
    places = [bits_of(left)[0] for left in choices]
    images = {}
    for sort in source.frame().sorts():
        count = len(source.things(sort))
        things = target.things(sort)
        images[sort] = [things[place] for place in places[:count]]
        places = places[count:]
    return images


def _counts_of(world):
    return [len(world.things(sort)) for sort in world.frame().sorts()]


def first_images(source, target, exact):
    """The dict that maps each sort to the images of its things, first by their places, or None.

    The frames of the two worlds are equal. If the images are exact, they lead the source one to one to the target.
    """
    if exact and _counts_of(source) != _counts_of(target):
        return None
    links, choices = _start(source, target, exact)
    first = None if choices is None else _first_choices(links, choices)
    return None if first is None else _images_of(source, target, first)


def _in_order(several, count):
    """Choices that leave each spot one image, ascending by the places of the images, which are less than count."""
    choices_of = {}
    for choices in several:
        number = 0
        for left in choices:
            number = number * count + bits_of(left)[0]
        choices_of[number] = choices
    return [choices_of[number] for number in sorted([int(number) for number in choices_of])]


def all_images(source, target, most):
    """The list of the dicts of all images, ascending by their places, or None if there are more than so many."""
    links, choices = _start(source, target, False)
    found = [] if choices is None else _found_choices(links, choices, most + 1)
    if len(found) > most:
        return None
    return [_images_of(source, target, images) for images in _in_order(found, target.total() + 1)]
