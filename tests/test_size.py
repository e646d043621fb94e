import unittest

from tests.helper import EXAMPLE, ask, find, heights, last, limit, put, read, set_lines, set_rows, side, size, table


class Size(unittest.TestCase):
    def check(self, text, answer):
        with self.subTest(text=text):
            self.assertEqual(last(read(text), size()), answer)

    def test_new_object(self):
        self.assertEqual(last(size()), [1, 1, 10, 1])

    def test_lines_between_parts(self):
        self.check(EXAMPLE, [2, 3, 23, 4])
        self.check(table(1, "@head", "a", "@group", "a", "@group", "a", "@foot", "a"), [1, 4, 10, 7])

    def test_high_rows(self):
        self.check(table(1, "@group", "x" * 60), [1, 1, 10, 6])
        self.check(table(2, "@group", "x" * 21 + " | " + "y" * 11, "a | b"), [2, 2, 23, 4])
        self.check(table(1, "@group", "aaaaa bbbb", "aaaaa bbbbb"), [1, 2, 10, 3])

    def test_cell_over_several_columns_has_their_gaps(self):
        self.check(table(2, "@group", "^1x2 " + "x" * 23), [2, 1, 23, 1])
        self.check(table(2, "@group", "^1x2 " + "x" * 24), [2, 1, 23, 2])
        self.check(table(12, "@group", "^1x12"), [12, 1, 153, 1])

    def test_cell_over_several_rows_makes_the_last_one_higher(self):
        self.check(table(2, "@group", "^2x1 " + "x" * 20 + " | a", "b"), [2, 2, 23, 2])
        self.check(table(2, "@group", "^2x1 " + "x" * 21 + " | a", "b"), [2, 2, 23, 3])
        self.check(table(2, "@group", "^2x1 " + "x" * 40 + " | " + "y" * 30, "b"), [2, 2, 23, 4])
        self.check(table(2, "@group", "^3x1 " + "x" * 50 + " | ^2x1 " + "y" * 40, "^", "b"), [2, 3, 23, 5])

    def test_rows_without_cells(self):
        self.check(table(1, "@group", "^3x1 a", "^", "^"), [1, 3, 10, 3])

    def test_limits_and_sides_do_not_matter(self):
        self.assertEqual(ask(read(EXAMPLE), limit(0, 40, 40), side(0, 2), size())[3], [2, 3, 23, 4])

    def test_widths_that_were_put_or_found(self):
        asked = ask(read(EXAMPLE), put([1, 1]), size(), find(17), size(), put([40, 40]), size(), read(EXAMPLE), size())
        self.assertEqual(asked[2::2], [[2, 3, 5, 18], [2, 3, 17, 5], [2, 3, 83, 4], [2, 3, 23, 4]])

    def test_lines_that_set_tells(self):
        spread = table(3, "@head", "^1x3 a head over all", "@group", "^3x1 goes down three rows | b | c", "d | ^2x1 e f g h",
                       "i", "@group", "^2x2 | x", "", "@foot", " |  | the end")
        for text, columns in ((EXAMPLE, 2), (spread, 3)):
            for width in (1, 2, 3, 5, 8, 40):
                asked = ask(read(text), put([width] * columns), size(), set_lines(), heights())
                rows = set_rows(asked[3])
                with self.subTest(text=text, width=width):
                    self.assertEqual(asked[2], [columns, asked[0][1], len(rows[0]), len(rows)])
                    self.assertEqual(len(rows), sum(asked[4][1:]) + text.count("@") - 2)


if __name__ == "__main__":
    unittest.main()
