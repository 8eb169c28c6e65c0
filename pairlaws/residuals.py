"""Residuals of relations, and what lies between two of them (S1.4)."""

from pairlaws.errors import MixedNames


def under(r, t):
    """The greatest s with r >> s <= t."""
    return ~(r.turned() >> ~t)


def over(t, s):
    """The greatest r with r >> s <= t."""
    return ~(~t >> s.turned())


def likeness(r, s):
    """The pairs of a source of r and a source of s that have exactly the same targets."""
    return over(r, s) & over(s, r).turned()


def between(r, s, x, z):
    """The names y, in order, with (x, y) in r and (y, z) in s."""
    if r.targets() != s.sources():
        raise MixedNames()
    row = r.row(x)
    column = s.column(z)
    return [y for y in row if y in column]


def first_gap(r, s, t):
    """The first (x, y, z) that shows that r >> s <= t does not hold, or None."""
    gaps = ((r >> s) - t).pairs()
    if not gaps:
        return None
    x, z = gaps[0]
    return (x, between(r, s, x, z)[0], z)
