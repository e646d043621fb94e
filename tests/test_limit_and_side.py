import unittest

from tests.helper import EXAMPLE, FAR, ask, last, limit, read, side

NO_COLUMN = (-1, 2, 3, FAR, -FAR)


class Limit(unittest.TestCase):
    def test_column_refused_first(self):
        for j in NO_COLUMN:
            self.assertEqual(ask(read(EXAMPLE), limit(j, 1, 40), limit(j, 0, 0))[1:], [[-2], [-2]], j)

    def test_limits_refused(self):
        for least, most in ((0, 5), (-1, 5), (41, 41), (5, 4), (1, 41), (1, 0), (1, -FAR), (FAR, FAR), (-FAR, 5), (1, FAR),
                            (40, 39), (0, 0), (40, 41)):
            self.assertEqual(last(read(EXAMPLE), limit(0, least, most)), [-5], (least, most))

    def test_edges(self):
        asked = ask(limit(0, 1, 40), limit(0, 1, 1), limit(0, 40, 40), limit(0, 1, 40), limit(0, 1, 40))
        self.assertEqual(asked, [[0], [1], [1], [1], [0]])

    def test_one_or_both_changed(self):
        asked = ask(limit(0, 2, 9), limit(0, 2, 9), limit(0, 3, 9), limit(0, 3, 8), limit(0, 4, 7), limit(0, 4, 7))
        self.assertEqual(asked, [[1], [0], [1], [1], [1], [0]])

    def test_columns_apart(self):
        asked = ask(read(EXAMPLE), limit(0, 2, 9), limit(1, 1, 40), limit(1, 2, 9), limit(0, 2, 9))
        self.assertEqual(asked[1:], [[1], [0], [1], [0]])

    def test_refused_call_changes_nothing(self):
        asked = ask(limit(0, 2, 9), limit(0, 3, 41), limit(0, 0, 5), limit(1, 4, 4), limit(0, 2, 9))
        self.assertEqual(asked, [[1], [-5], [-5], [-2], [0]])


class Side(unittest.TestCase):
    def test_column_refused_first(self):
        for j in NO_COLUMN:
            self.assertEqual(ask(read(EXAMPLE), side(j, 0), side(j, 3))[1:], [[-2], [-2]], j)

    def test_side_refused(self):
        for told in (-1, 3, 4, FAR, -FAR):
            self.assertEqual(last(read(EXAMPLE), side(1, told)), [-5], told)

    def test_one_and_zero(self):
        asked = ask(side(0, 0), side(0, 1), side(0, 1), side(0, 2), side(0, 2), side(0, 0), side(0, 0))
        self.assertEqual(asked, [[0], [1], [0], [1], [0], [1], [0]])

    def test_columns_apart(self):
        asked = ask(read(EXAMPLE), side(0, 1), side(1, 0), side(1, 2), side(0, 1))
        self.assertEqual(asked[1:], [[1], [0], [1], [0]])

    def test_refused_call_changes_nothing(self):
        asked = ask(side(0, 1), side(0, 3), side(1, 2), side(0, 1))
        self.assertEqual(asked, [[1], [-5], [-2], [0]])


if __name__ == "__main__":
    unittest.main()
