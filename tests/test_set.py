import random
import unittest

from tests.helper import EXAMPLE, FIRST_TEXT, ask, ask_behind, heights, last, lines, list_of, put, read, set_lines
from tests.helper import set_rows, show, side, size, table, text_of, texts, told_set, widths


class Set(unittest.TestCase):
    def check(self, calls, *rows):
        with self.subTest(calls=calls):
            self.assertEqual(last(*calls, set_lines()), told_set(*rows))

    def test_new_object(self):
        self.check([], " " * 10)
        self.check([put([1])], " ")
        self.check([put([40]), side(0, 2)], " " * 40)

    def test_left(self):
        self.check([read(table(1, "@group", "a", "bcd", "efghi")), put([5])], "a    ", "bcd  ", "efghi")

    def test_right(self):
        self.check([read(table(1, "@group", "a", "bcd", "efghi")), put([5]), side(0, 1)], "    a", "  bcd", "efghi")

    def test_middle(self):
        self.check([read(table(1, "@group", "a", "bc", "def", "ghij", "klmno", "")), put([5]), side(0, 2)],
                   "  a  ", " bc  ", " def ", "ghij ", "klmno", "     ")
        self.check([read(table(1, "@group", "a", "bc", "def", "ghij")), put([4]), side(0, 2)],
                   " a  ", " bc ", "def ", "ghij")

    def test_each_line_by_itself(self):
        text = table(1, "@group", "abcd ef g")
        self.check([read(text), put([4]), side(0, 2)], "abcd", "ef g")
        self.check([read(text), put([3]), side(0, 2)], "abc", " d ", "ef ", " g ")
        self.check([read(text), put([3]), side(0, 1)], "abc", "  d", " ef", "  g")

    def test_sides_of_columns(self):
        text = table(3, "@group", "a | b | c", "^1x2 d | e", "f | ^1x2 g")
        self.check([read(text), put([3, 4, 5]), side(0, 1), side(1, 2)],
                   "  a |  b   | c    ", "         d | e    ", "  f |      g      ")
        self.check([read(text), put([3, 4, 5]), side(1, 1), side(2, 2)],
                   "a   |    b |   c  ", "d          |   e  ", "f   |            g")

    def test_cells_of_different_heights(self):
        self.check([read(table(2, "@group", "abc | x", "y | abc")), put([1, 2])],
                   "a | x ", "b |   ", "c |   ", "y | ab", "  | c ")

    def test_cell_over_several_rows(self):
        self.check([read(table(2, "@group", "^2x1 abcd | x", "y")), put([1, 1])], "a | x", "b | y", "c |  ", "d |  ")
        self.check([read(table(2, "@group", "x | ^2x1 abcd", "y")), put([1, 1])], "x | a", "y | b", "  | c", "  | d")

    def test_cell_that_goes_on_while_neighbours_begin(self):
        text = table(3, "@group", "^3x1 abcdefgh | vw | 1", "x | ^2x1 234", "yz")
        self.check([read(text), put([1, 1, 1])], "a | v | 1", "b | w |  ", "c | x | 2", "d | y | 3", "e | z | 4",
                   "f |   |  ", "g |   |  ", "h |   |  ")
        text = table(3, "@group", "12 | ^2x1 abcde | 1", "345 | 23")
        self.check([read(text), put([1, 1, 1])], "1 | a | 1", "2 | b |  ", "3 | c | 2", "4 | d | 3", "5 | e |  ")

    def test_cell_over_several_columns(self):
        self.check([read(table(3, "@group", "^1x2 abc def | x", "y | ^1x2 a b c d")), put([1, 1, 1])],
                   "abc   | x", "def   |  ", "y | a b c", "  | d    ")

    def test_cell_over_rows_and_columns(self):
        text = table(3, "@group", "1 | ^2x2 abcdefghijkl", "23", "x | y | z")
        self.check([read(text), put([1, 1, 1]), side(1, 1)], "1 | abcde", "2 | fghij", "3 |    kl", "x | y | z")
        self.check([read(table(2, "@group", "^3x2 ab", "^", "^")), put([1, 1]), side(0, 2)], " ab  ", "     ", "     ")

    def test_line_between_parts(self):
        self.check([read(table(1, "@head", "a", "@group", "b", "@group c", "d", "e", "@foot", "f")), put([2])],
                   "a ", "==", "b ", "==", "d ", "e ", "==", "f ")
        for part in ("@head", "@group", "@group g", "@foot"):
            self.check([read(table(1, part, "a")), put([2])], "a ")
            self.check([read(table(1, part, "")), put([2])], "  ")
        self.check([read(table(2, "@head", "^1x2", "@foot", " | ")), put([2, 3])], " " * 8, "=" * 8, "   |    ")

    def test_signs_stand_without_backslash(self):
        self.check([read(table(2, "@group", "\\|\\^ | \\@\\\\", "=\\| | a")), put([2, 2])], "|^ | @\\", "=| | a ")

    def test_widest_and_narrowest(self):
        text = table(12, "@group", " | ".join("abcdefghijkl"))
        self.check([read(text), put([1] * 12)], " | ".join("abcdefghijkl"))
        self.check([read(text), put([40] * 12)], " | ".join(sign.ljust(40) for sign in "abcdefghijkl"))

    def test_nothing_changes(self):
        asked = ask(read(EXAMPLE), put([3, 4]), set_lines(), set_lines(), show(), widths(), side(0, 0))
        self.assertEqual(asked[2], asked[3])
        self.assertEqual(asked[4:], [text_of(EXAMPLE), [2, 3, 4], [0]])

    def test_read_sets_back(self):
        self.check([read(FIRST_TEXT), put([3]), side(0, 1), read(table(1, "@group", "a"))], "a" + " " * 9)

    def test_highest(self):
        rows = [" | ".join(["x" * 60] + [""] * 11)] * 30
        asked = ask(read(table(12, "@head", *rows, "@foot", *rows)), put([1] + [40] * 11), set_lines(), size())
        self.assertEqual(asked[3], [12, 60, 474, 3601])
        told = set_rows(asked[2])
        self.assertEqual(len(told), 3601)
        self.assertEqual({line for line in told}, {"x" + (" | " + " " * 40) * 11, "=" * 474})
        self.assertEqual([k for k, line in enumerate(told) if line[0] == "="], [1800])


class Placed:
    """A cell at its place, for a table that is painted here."""

    def __init__(self, row, column, down, right, text):
        self.row, self.column, self.down, self.right, self.text = row, column, down, right, text

    def line_text(self):
        text = "".join("\\" + sign if sign in "|^@\\" else sign for sign in self.text)
        if self.down == 1 and self.right == 1:
            return text
        return f"^{self.down}x{self.right}" + (" " + text if text else "")


def some_text(source):
    words = ["".join(source.choices("abcxyz|^@\\=", k=source.randint(1, 9))) for k in range(source.randint(0, 5))]
    return source.choice((" ", "  ")).join(words)[:60].strip()


def some_part(source, first, rows, columns):
    """The cells of a part, and its rows' lines."""
    covered, cells, told = set(), [], []
    for row in range(rows):
        begun = []
        for column in range(columns):
            if (row, column) in covered:
                continue
            right = 1
            while column + right < columns and (row, column + right) not in covered and source.random() < 0.3:
                right += 1
            down = 1
            while row + down < rows and source.random() < 0.4:
                down += 1
            covered.update((row + y, column + x) for y in range(down) for x in range(right))
            begun.append(Placed(first + row, column, down, right, some_text(source)))
        told.append(" | ".join(cell.line_text() for cell in begun) if begun else "^")
        cells += begun
    return cells, told


def wrapped(text, width):
    done = []
    for word in text.split():
        if len(word) <= width and done and len(done[-1] + " " + word) <= width:
            done[-1] += " " + word
        else:
            while word:
                done.append(word[:width])
                word = word[width:]
    return done


class Painting:
    """A table of some parts, painted cell by cell on an empty page."""

    def __init__(self, source):
        self.columns = source.randint(1, 5)
        self.cells, self.parts, told = [], [], []
        for kind in ["@head", "@group", "@group n", "@foot"][source.randint(0, 3):]:
            rows = source.randint(1, 5)
            cells, row_lines = some_part(source, sum(self.parts), rows, self.columns)
            self.cells += cells
            self.parts.append(rows)
            told += [kind] + row_lines
        self.text = table(self.columns, *told)
        self.widths = [source.randint(1, 9) for column in range(self.columns)]
        self.sides = [source.randint(0, 2) for column in range(self.columns)]
        self.wide = sum(self.widths) + 3 * (self.columns - 1)
        self.heights = self.found_heights()

    def width(self, cell):
        return sum(self.widths[cell.column:cell.column + cell.right]) + 3 * (cell.right - 1)

    def lines(self, cell):
        return wrapped(cell.text, self.width(cell))

    def found_heights(self):
        found = [1] * sum(self.parts)
        for row in range(len(found)):
            for cell in self.cells:
                while cell.row + cell.down - 1 == row and len(self.lines(cell)) > sum(found[cell.row:row + 1]):
                    found[row] += 1
        return found

    def painted(self):
        tops, ruled, top = [], [], 0
        for part, rows in enumerate(self.parts):
            if part > 0:
                ruled.append(top)
                top += 1
            for k in range(rows):
                tops.append(top)
                top += self.heights[len(tops) - 1]
        page = [["="] * self.wide if y in ruled else [" "] * self.wide for y in range(top)]
        for cell in self.cells:
            x = sum(self.widths[:cell.column]) + 3 * cell.column
            for y in range(sum(self.heights[cell.row:cell.row + cell.down])):
                if cell.column > 0:
                    page[tops[cell.row] + y][x - 2] = "|"
            for y, line in enumerate(self.lines(cell)):
                spare = self.width(cell) - len(line)
                start = x + (0, spare, spare // 2)[self.sides[cell.column]]
                page[tops[cell.row] + y][start:start + len(line)] = line
        return ["".join(row) for row in page]


class Painted(unittest.TestCase):
    def test_many_tables(self):
        source = random.Random(13)
        for k in range(150):
            paint = Painting(source)
            rows = sum(paint.parts)
            before = [read(paint.text), put(paint.widths)] + [side(j, told) for j, told in enumerate(paint.sides)]
            asked = ask(*before, set_lines(), heights(), size())
            with self.subTest(text=paint.text, widths=paint.widths, sides=paint.sides):
                self.assertEqual(asked[0], [0, rows])
                self.assertEqual(set_rows(asked[-3]), paint.painted())
                self.assertEqual({len(line) for line in set_rows(asked[-3])}, {paint.wide})
                self.assertEqual(asked[-2], list_of(paint.heights))
                self.assertEqual(asked[-1], [paint.columns, rows, paint.wide, len(set_rows(asked[-3]))])

    def test_lines_of_many_cells(self):
        source = random.Random(11)
        for k in range(30):
            paint = Painting(source)
            places = [(cell, row, column) for cell in paint.cells for row in range(cell.row, cell.row + cell.down)
                      for column in range(cell.column, cell.column + cell.right)]
            self.assertEqual(len(places), sum(paint.parts) * paint.columns)
            asked = ask_behind([read(paint.text), put(paint.widths)], [lines(row, column) for cell, row, column in places])
            for (cell, row, column), answer in zip(places, asked):
                with self.subTest(text=paint.text, widths=paint.widths, row=row, column=column):
                    self.assertEqual(answer, [paint.width(cell)] + texts(*paint.lines(cell)))


if __name__ == "__main__":
    unittest.main()
