"""What the calls are about: a table with its text, and its columns' widths, limits and sides."""

from columnwidths.measures import column_badness
from columnwidths.reading import read_table
from columnwidths.signs import codes

LEAST_WIDTH = 1
MOST_WIDTH = 40
FIRST_WIDTH = 10
LEFT = 0
RIGHT = 1
MIDDLE = 2

FIRST_TEXT = "@table 1\n@group\n\n"


class Sheet:
    def __init__(self):
        text = codes(FIRST_TEXT)
        self.hold(text, read_table(text).table)

    def hold(self, text, table):
        """Take this table in the place of what is held, with widths, limits and sides as at first."""
        self.text = text
        self.table = table
        self.widths = [FIRST_WIDTH] * table.columns
        self.limits = [(LEAST_WIDTH, MOST_WIDTH)] * table.columns
        self.sides = [LEFT] * table.columns
        # Finding asks for all of them time and again, and they change with the table alone.
        self.known_badness = {}

    def has_column(self, column):
        return 0 <= column < self.table.columns

    def are_told_widths(self, numbers):
        return len(numbers) == self.table.columns and all([is_width(number) for number in numbers])

    def badness_at(self, column, width):
        key = (column, width)
        if key not in self.known_badness:
            self.known_badness[key] = column_badness(self.table, column, width)
        return self.known_badness[key]

    def total_badness(self, widths):
        return sum([self.badness_at(column, width) for column, width in enumerate(widths)])

    def choices_of(self, column):
        """The widths within the column's limits, the least one first, each with its badness."""
        least = self.limits[column][0]
        most = self.limits[column][1]
        return [(width, self.badness_at(column, width)) for width in range(least, most + 1)]


def is_width(number):
    return LEAST_WIDTH <= number <= MOST_WIDTH
