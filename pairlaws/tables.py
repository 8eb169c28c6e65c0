"""Tables of places: relations between the places of a way, each kept as one integer.

Bit i * count + j of a table tells of the places i and j. To decide a claim takes many thousands of tables; as integers
they are joined and cut by one operation each. A row is an integer, too: its bit j tells of the place j.
"""


def bits_of(number):
    """The list of the places of the bits of a number that are 1."""
    return [at for at in range(number.bit_length()) if number >> at & 1]


class Tables:
    """How tables are made and combined for places of these sorts."""

    def __init__(self, sorts):
        self.sort_of = tuple(sorts)
        self.count = len(self.sort_of)
        self.full_row = (1 << self.count) - 1
        self.first_column = sum([1 << (place * self.count) for place in range(self.count)])
        rows = {sort: sum([1 << place for place, found in enumerate(self.sort_of) if found == sort])
                for sort in self.sort_of}
        self.blocks_of_sorts = {(first, second): self.block(rows[first], rows[second])
                                for first in rows for second in rows}
        self.same = sum([self.cell(place, place) for place in range(self.count)])

    def cell(self, i, j):
        """The table of the places i and j alone."""
        return 1 << (i * self.count + j)

    def has(self, table, i, j):
        return table >> (i * self.count + j) & 1 == 1

    def row(self, table, i):
        return table >> (i * self.count) & self.full_row

    def block(self, some, others):
        """The table of each place of one row with each place of another one."""
        return sum([others << (place * self.count) for place in bits_of(some)])

    def between(self, first, second):
        """The table of each place of one sort with each place of another one."""
        return self.blocks_of_sorts.get((first, second), 0)

    def turned(self, table):
        return sum([1 << (at % self.count * self.count + at // self.count) for at in bits_of(table)])

    def then(self, table, other):
        made = 0
        for place in range(self.count):
            # The column of this place has at most one bit for each row, so that its product with a row of the
            # other table writes that row into each of these rows, and nothing runs over into the next one.
            column = table >> place & self.first_column
            made = made | column * (other >> (place * self.count) & self.full_row)
        return made

    def closed(self, table):
        made = table
        longer = made | self.then(made, made)
        while longer != made:
            made = longer
            longer = made | self.then(made, made)
        return made

    def cells(self, table):
        """The list of the pairs of places of a table, in order."""
        return [(at // self.count, at % self.count) for at in bits_of(table)]
