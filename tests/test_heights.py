import unittest

from tests.helper import EXAMPLE, ask, heights, last, limit, list_of, put, read, side, table


class Heights(unittest.TestCase):
    def check(self, text, told, *expected):
        with self.subTest(text=text, told=told):
            self.assertEqual(last(read(text), put(told), heights()), list_of(expected))

    def test_new_object(self):
        self.assertEqual(ask(heights(), put([1]), heights()), [[1, 1], [0, 1], [1, 1]])

    def test_example(self):
        self.assertEqual(ask(read(EXAMPLE), heights(), put([6, 8]), heights())[1::2], [[3, 1, 1, 1], [3, 1, 2, 1]])

    def test_highest_cell_of_a_row(self):
        text = table(3, "@group", "abc | abcdef | a", "a | b | c")
        self.check(text, [1, 2, 5], 3, 1)
        self.check(text, [1, 1, 5], 6, 1)
        self.check(text, [3, 6, 1], 1, 1)

    def test_empty_texts(self):
        self.check(table(2, "@group", " | ", "^1x2", "^2x2", "^"), [1, 1], 1, 1, 1, 1)
        self.check(table(2, "@group", " | abc", "abcd | "), [1, 1], 3, 4)

    def test_lines_have_room_in_the_rows_before(self):
        self.check(table(2, "@group", "^2x1 aaaa | bbb", "c"), [1, 1], 3, 1)
        self.check(table(2, "@group", "^2x1 aaa | bbb", "c"), [1, 1], 3, 1)
        self.check(table(2, "@group", "^3x1 abcd | a", "bb", "c"), [1, 1], 1, 2, 1)

    def test_lines_have_no_room_in_the_rows_before(self):
        self.check(table(2, "@group", "^2x1 aaaaa | bbb", "c"), [1, 1], 3, 2)
        self.check(table(2, "@group", "^2x1 " + "a" * 9 + " | b", "c"), [1, 1], 1, 8)
        self.check(table(2, "@group", "^3x1 abcdefg | a", "bb", "c"), [1, 1], 1, 2, 4)

    def test_row_in_which_no_cell_ends(self):
        self.check(table(1, "@group", "^3x1 abcde", "^", "^"), [1], 1, 1, 3)
        self.check(table(2, "@group", "^3x1 abcdefgh | ^2x1 abcd", "^", "z"), [1, 1], 1, 3, 4)
        self.check(table(2, "@group", "^2x1 abcd | ^3x1 abcdef", "^", "z"), [1, 1], 1, 3, 2)

    def test_cells_that_end_in_one_row(self):
        self.check(table(3, "@group", "^3x1 abcdefg | a | x", "^2x1 abcde | y", "z"), [1, 1, 1], 1, 1, 5)
        self.check(table(3, "@group", "^3x1 abcdefg | a | x", "^2x1 abcdefgh | y", "z"), [1, 1, 1], 1, 1, 7)
        self.check(table(3, "@group", "^3x1 a | a | x", "^2x1 a | y", "abcd"), [1, 1, 1], 1, 1, 4)

    def test_a_cell_counts_in_its_last_row_alone(self):
        self.check(table(2, "@group", "^2x1 " + "a" * 10 + " | b", "c", "d | e"), [1, 1], 1, 9, 1)

    def test_width_over_several_columns(self):
        self.check(table(2, "@group", "^1x2 abcdefgh", "a | b"), [2, 3], 1, 1)
        self.check(table(2, "@group", "^1x2 abcdefghi", "a | b"), [2, 3], 2, 1)
        self.check(table(3, "@group", "a | ^2x2 " + "x" * 20, "b"), [9, 1, 1], 1, 3)

    def test_rows_through_all_parts(self):
        text = table(2, "@head", "ab | c", "@group", "^2x1 abcd | a", "b", "@group n", "^1x2 abcdef", "@foot", "abc | abcd")
        self.check(text, [1, 1], 2, 1, 3, 2, 4)

    def test_thirty_rows_down(self):
        self.check(table(1, "@group", "^30x1 " + "x" * 60, *["^"] * 29), [1], *[1] * 29, 31)
        self.check(table(1, "@group", "^30x1 " + "x" * 30, *["^"] * 29), [1], *[1] * 30)

    def test_limits_and_sides_do_not_matter(self):
        self.assertEqual(last(read(EXAMPLE), put([6, 8]), limit(0, 1, 1), side(1, 2), heights()), [3, 1, 2, 1])


if __name__ == "__main__":
    unittest.main()
