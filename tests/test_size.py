import unittest

from tests.helper import EXAMPLE, ask, last, limit, read, side, size, table


class Size(unittest.TestCase):
    def check(self, text, answer):
        with self.subTest(text=text):
            self.assertEqual(last(read(text), size()), answer)

    def test_new_object(self):
        self.assertEqual(last(size()), [1, 1, 10, 1])

    def test_lines_between_parts(self):
        self.check(EXAMPLE, [2, 3, 23, 4])
        self.check(table(1, "@head", "a", "@group", "a", "@group", "a", "@foot", "a"), [1, 4, 10, 7])

    def test_high_rows(self):
        self.check(table(1, "@group", "x" * 60), [1, 1, 10, 6])
        self.check(table(2, "@group", "x" * 21 + " | " + "y" * 11, "a | b"), [2, 2, 23, 4])
        self.check(table(1, "@group", "aaaaa bbbb", "aaaaa bbbbb"), [1, 2, 10, 3])

    def test_cell_over_several_columns_has_their_gaps(self):
        self.check(table(2, "@group", "^1x2 " + "x" * 23), [2, 1, 23, 1])
        self.check(table(2, "@group", "^1x2 " + "x" * 24), [2, 1, 23, 2])
        self.check(table(12, "@group", "^1x12"), [12, 1, 153, 1])

    def test_cell_over_several_rows_makes_the_last_one_higher(self):
        self.check(table(2, "@group", "^2x1 " + "x" * 20 + " | a", "b"), [2, 2, 23, 2])
        self.check(table(2, "@group", "^2x1 " + "x" * 21 + " | a", "b"), [2, 2, 23, 3])
        self.check(table(2, "@group", "^2x1 " + "x" * 40 + " | " + "y" * 30, "b"), [2, 2, 23, 4])
        self.check(table(2, "@group", "^3x1 " + "x" * 50 + " | ^2x1 " + "y" * 40, "^", "b"), [2, 3, 23, 5])

    def test_rows_without_cells(self):
        self.check(table(1, "@group", "^3x1 a", "^", "^"), [1, 3, 10, 3])

    def test_limits_and_sides_do_not_matter(self):
        self.assertEqual(ask(read(EXAMPLE), limit(0, 40, 40), side(0, 2), size())[3], [2, 3, 23, 4])


if __name__ == "__main__":
    unittest.main()
