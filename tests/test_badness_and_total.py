import unittest

from tests.helper import EXAMPLE, FAR, ask, badness, last, limit, read, show, size, table, text_of, total

WIDE = table(3, "@head", "^1x2 over two columns | ^2x1 two rows down", "a b c | ", "@group", "^1x3 abcdefghijkl",
             "abcd efgh | abcdefgh ij | z")


class Badness(unittest.TestCase):
    def test_column_refused_first(self):
        for j in (-1, 2, FAR, -FAR):
            self.assertEqual(ask(read(EXAMPLE), badness(j, 5), badness(j, 0))[1:], [[-2], [-2]], j)

    def test_width_refused(self):
        for w in (0, -1, 41, FAR, -FAR):
            self.assertEqual(last(read(EXAMPLE), badness(1, w)), [-5], w)

    def test_width_edges(self):
        self.assertEqual(ask(read(EXAMPLE), badness(0, 1), badness(0, 40))[1:], [[28], [0]])

    def test_empty_texts(self):
        self.assertEqual(ask(badness(0, 1), badness(0, 40)), [[0], [0]])

    def test_cells_over_several_columns_do_not_count(self):
        self.assertEqual(last(read(table(2, "@group", "^1x2 abcdef", "a | b")), badness(0, 2)), [0])
        self.assertEqual(last(read(table(2, "@group", "^1x2 abcdef", "a | b")), badness(1, 2)), [0])

    def test_cells_over_several_rows_count(self):
        text = table(2, "@group", "^2x1 ab cd | x", "yy zz", "w | ^2x1 abc", "w")
        asked = ask(read(text), badness(0, 2), badness(0, 1), badness(1, 2))
        self.assertEqual(asked[1:], [[1], [23], [12]])

    def test_column_in_which_a_cell_begins(self):
        asked = ask(read(WIDE), badness(0, 4), badness(1, 4), badness(2, 4))
        self.assertEqual(asked[1:], [[2], [12], [2]])

    def test_cut_words(self):
        self.assertEqual(last(read(table(1, "@group", "abcd efghij", "ab")), badness(0, 3)), [10 + 10 + 3])
        self.assertEqual(last(read(table(1, "@group", "abcd ef")), badness(0, 3)), [10 + 2])
        self.assertEqual(last(read(table(1, "@group", "abcd e")), badness(0, 3)), [10 + 1])

    def test_all_parts_together(self):
        text = table(1, "@head", "a b", "@group", "a b", "@group", "a b c", "@foot", "a b")
        self.assertEqual(ask(read(text), badness(0, 1), badness(0, 3), badness(0, 5))[1:], [[5], [1], [0]])


class Total(unittest.TestCase):
    def test_lists_refused(self):
        for widths in ([], [5], [5, 5, 5], [5] * 20, [0, 5], [5, 0], [41, 5], [5, 41], [-1, 5], [5, FAR], [-FAR, 5]):
            self.assertEqual(last(read(EXAMPLE), total(widths)), [-1], widths)

    def test_edges(self):
        asked = ask(read(EXAMPLE), total([1, 1]), total([40, 40]), total([1, 40]))
        self.assertEqual(asked[1:], [[28 + 53, 5], [0, 83], [28, 44]])

    def test_one_column(self):
        self.assertEqual(ask(total([1]), total([40])), [[0, 1], [0, 40]])

    def test_each_column_at_its_own_width(self):
        self.assertEqual(ask(read(EXAMPLE), total([6, 8]), total([8, 5]), total([5, 8]))[1:], [[1, 17], [2, 16], [12, 16]])

    def test_cells_over_several_columns_and_rows(self):
        self.assertEqual(ask(read(WIDE), total([4, 4, 4]), total([5, 11, 13]), total([9, 11, 13]))[1:],
                         [[16, 18], [1, 35], [0, 39]])

    def test_twelve_columns(self):
        text = table(12, "@group", " | ".join(["ab"] * 12))
        self.assertEqual(ask(read(text), total([40] * 12), total([1] * 12), total([2] * 12))[1:],
                         [[0, 513], [132, 45], [0, 57]])

    def test_limits_do_not_matter(self):
        self.assertEqual(last(read(EXAMPLE), limit(0, 8, 8), total([6, 8])), [1, 17])

    def test_nothing_changes(self):
        asked = ask(read(EXAMPLE), total([6, 8]), badness(0, 5), show(), size())
        self.assertEqual(asked[3:], [text_of(EXAMPLE), [2, 3, 23, 4]])


if __name__ == "__main__":
    unittest.main()
