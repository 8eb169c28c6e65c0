"""Plans: terms as rows that tell how a worth is computed step by step (S8.1)."""

from pairlaws.errors import BadPlan, TooMany
from pairlaws.terms import ends_above, ends_of, has_form, is_number_below, parts_below, parts_inner_first

_MOST_PARTS = 200


def _row_of(part, numbers):
    """The row of a part whose own parts have rows of these numbers."""
    return (part[0], *numbers) if numbers else part


def compiled(frame, term):
    """The plan of a term, which may be any value: one row for each different part."""
    ends_of(frame, term)
    # Two parts are equal exactly if their rows are, and a row, other than a part, is never nested.
    number_of = {}
    number_at = {}
    for path, part in parts_inner_first(term):
        row = _row_of(part, [number_at[path + (at,)] for at in range(len(parts_below(part)))])
        if row not in number_of:
            number_of[row] = len(number_of)
        number_at[path] = number_of[row]
    return tuple(list(number_of))


def _ends_of_row(frame, row, earlier):
    """The ends of a value as a row behind rows with these ends; None if it is not allowed there."""
    if not has_form(frame, row):
        return None
    numbers = parts_below(row)
    if not all([is_number_below(number, len(earlier)) for number in numbers]):
        return None
    return ends_above(frame, row, [earlier[number] for number in numbers])


def first_wrong(frame, value):
    """None if a value, which may be any value, is a plan; else the number of its first wrong row."""
    if not isinstance(value, tuple) or not value:
        return 0
    found = []
    for number, row in enumerate(value):
        ends = _ends_of_row(frame, row, found)
        if ends is None:
            return number
        found.append(ends)
    return None


def check_plan(frame, rows):
    """Raise BadPlan for any value that is not a plan."""
    number = first_wrong(frame, rows)
    if number is not None:
        raise BadPlan(number)


def _last_size(rows):
    """The number of the parts of the term of the last row, each counted as often as it occurs."""
    sizes = []
    for row in rows:
        sizes.append(1 + sum([sizes[number] for number in parts_below(row)]))
    return sizes[-1]


def plan_term(frame, rows):
    """The term of the last row of a plan, which may be any value."""
    check_plan(frame, rows)
    if _last_size(rows) > _MOST_PARTS:
        raise TooMany()
    terms = []
    for row in rows:
        below = [terms[number] for number in parts_below(row)]
        terms.append((row[0], *below) if below else row)
    return terms[-1]
