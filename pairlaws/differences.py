"""Worlds after changes, and how worths differ by them (S8.4)."""

from pairlaws.errors import BadDeed
from pairlaws.running import run_plan
from pairlaws.worlds import with_pair, without_pair
from pairlaws.worths import worth


def world_behind(world, change):
    """The world after a change, which may be any value."""
    if not isinstance(change, tuple) or len(change) != 4 or change[0] not in ("put", "take"):
        raise BadDeed()
    word, letter, x, y = change
    return with_pair(world, letter, x, y) if word == "put" else without_pair(world, letter, x, y)


def _gained_and_lost(before, after):
    return (after - before, before - after)


def net_difference(world, term, changes):
    """The pairs that a term gains and loses by a list of changes; term and changes may be any values."""
    before = worth(world, term)
    after = world
    for change in changes:
        after = world_behind(after, change)
    return _gained_and_lost(before, worth(after, term))


def difference_of(world, term, change):
    """The pairs that a term gains and loses by a change; both may be any values."""
    return net_difference(world, term, [change])


def all_differences(world, rows, change):
    """The list of the pairs that each row of a plan gains and loses by a change; both may be any values."""
    before = run_plan(world, rows)
    after = run_plan(world_behind(world, change), rows)
    return [_gained_and_lost(some, others) for some, others in zip(before, after)]
