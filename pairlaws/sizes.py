"""Counts, best pairings, least touches and greatest lacks of a relation (S1.5, S1.6)."""


def row_counts(r):
    return [len(r.row(x)) for x in r.sources()]


def column_counts(r):
    return [len(r.column(y)) for y in r.targets()]


def sources_with(r):
    return [x for x in r.sources() if r.row(x)]


def targets_had(r):
    return [y for y in r.targets() if r.column(y)]


def reached(r, names):
    """The targets of any of the names, in order."""
    found = {y: True for name in names for y in r.row(name)}
    return [y for y in r.targets() if y in found]


def _shifted(source_of, found_by, y):
    """The mates after y, which is unpaired, was given to the source that found it, and so on back."""
    shifted = dict(source_of)
    while y is not None:
        source, earlier = found_by[y]
        shifted[y] = source
        y = earlier
    return shifted


def _with_paired(r, x, source_of):
    """The mates after the unpaired source x has been paired too, or the same mates if it cannot be."""
    found_by = {}
    queue = [(x, None)]
    at = 0
    while at < len(queue):
        source, earlier = queue[at]
        at += 1
        for y in r.row(source):
            if y not in found_by:
                found_by[y] = (source, earlier)
                if y not in source_of:
                    return _shifted(source_of, found_by, y)
                queue.append((source_of[y], y))
    return source_of


def _best_mates(r):
    """A dict that maps each target of a best pairing to its source."""
    source_of = {}
    for x in r.sources():
        source_of = _with_paired(r, x, source_of)
    return source_of


def best_pairing(r):
    """Any pairing with the greatest number of pairs."""
    source_of = _best_mates(r)
    return [(x, y) for x, y in r.pairs() if source_of.get(y) == x]


def worst_lack(r):
    """Any list of sources, in order, with the greatest lack."""
    # From the unpaired sources one goes to their targets and on to the mates of these: each of the
    # sources met is unpaired or is the mate of one of the targets met, and no target is left over.
    source_of = _best_mates(r)
    paired = {source_of[y]: True for y in source_of}
    queue = [x for x in r.sources() if x not in paired]
    met = {x: True for x in queue}
    at = 0
    while at < len(queue):
        for y in r.row(queue[at]):
            if source_of[y] not in met:
                met[source_of[y]] = True
                queue.append(source_of[y])
        at += 1
    return [x for x in r.sources() if x in met]


def least_touch(r):
    """Any touch with the smallest number of names."""
    lacking = worst_lack(r)
    return ([x for x in r.sources() if x not in lacking], reached(r, lacking))


def _are_in_order(value, names):
    """Whether a list of any values has some of the names, in their order and each at most once."""
    return value == [name for name in names if name in value]


def judge_pairing(r, value):
    """Whether a value, which may be any value, is a pairing of r."""
    if not isinstance(value, list) or not _are_in_order(value, r.pairs()):
        return False
    return len({x: True for x, _ in value}) == len(value) == len({y: True for _, y in value})


def judge_touch(r, value):
    """Whether a value, which may be any value, is a touch of r."""
    if not isinstance(value, tuple) or len(value) != 2:
        return False
    xs, ys = value
    if not isinstance(xs, list) or not isinstance(ys, list):
        return False
    if not _are_in_order(xs, r.sources()) or not _are_in_order(ys, r.targets()):
        return False
    return all([x in xs or y in ys for x, y in r.pairs()])
