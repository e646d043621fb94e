import unittest

from tests.helper import EXAMPLE, FAR, FIRST_TEXT, ask, find, heights, last, limit, lines, list_of, put, read, set_lines
from tests.helper import show, side, size, table, text_of, texts, told_set, total, widths

WRONG_LISTS = ([], [5], [5, 5, 5], [5] * 12, [5] * 20, [0, 5], [5, 0], [41, 5], [5, 41], [-1, 5], [5, -5], [5, FAR],
               [-FAR, 5], [0, 0], [41, 41], [0] * 20)


class Put(unittest.TestCase):
    def test_badness_and_width(self):
        asked = ask(read(EXAMPLE), put([6, 8]), put([8, 5]), put([5, 8]), put([6, 9]))
        self.assertEqual(asked[1:], [[1, 17], [2, 16], [12, 16], [0, 18]])

    def test_edges(self):
        asked = ask(read(EXAMPLE), put([1, 1]), widths(), put([40, 40]), widths(), put([40, 1]), widths())
        self.assertEqual(asked[1:], [[81, 5], [2, 1, 1], [0, 83], [2, 40, 40], [53, 44], [2, 40, 1]])

    def test_whatever_the_limits(self):
        asked = ask(read(EXAMPLE), limit(0, 8, 8), limit(1, 20, 30), put([6, 9]), widths(), put([40, 40]), widths(),
                    limit(0, 8, 8), limit(1, 20, 30))
        self.assertEqual(asked[3:], [[0, 18], [2, 6, 9], [0, 83], [2, 40, 40], [0], [0]])

    def test_twelve_columns(self):
        text = table(12, "@group", " | ".join(["ab"] * 12))
        told = list(range(1, 13))
        self.assertEqual(ask(read(text), put(told), widths())[1:], [[11, 78 + 33], list_of(told)])

    def test_refused(self):
        for told in WRONG_LISTS:
            asked = ask(read(EXAMPLE), put([7, 9]), put(told), widths())
            self.assertEqual(asked[2:], [[-1], [2, 7, 9]], told)

    def test_what_goes_by_the_widths(self):
        asked = ask(read(EXAMPLE), put([3, 4]), heights(), lines(0, 1), lines(2, 0), lines(2, 1), set_lines(), size())
        self.assertEqual(asked[2:6], [[3, 1, 3, 2], [10] + texts("Cities"), [3] + texts("Ber", "gen"),
                                      [4] + texts("far", "west")])
        self.assertEqual(asked[6], told_set("Cities    ", "=" * 10, "Osl | the ", "o   | nort", "    | h   ",
                                            "Ber | far ", "gen | west"))
        self.assertEqual(asked[7], [2, 3, 10, 7])


class Widths(unittest.TestCase):
    def test_at_first(self):
        self.assertEqual(ask(widths(), read(EXAMPLE), widths()), [[1, 10], [0, 3], [2, 10, 10]])
        self.assertEqual(last(read(table(12, "@group", "^1x12")), widths()), list_of([10] * 12))

    def test_after_put_and_find(self):
        asked = ask(read(EXAMPLE), put([3, 4]), widths(), find(17), widths(), put([5, 40]), widths())
        self.assertEqual(asked[2::2], [[2, 3, 4], [2, 6, 8], [2, 5, 40]])

    def test_after_read(self):
        for change in (put([3, 4]), find(17)):
            self.assertEqual(ask(read(EXAMPLE), change, read(EXAMPLE), widths())[3], [2, 10, 10])
            self.assertEqual(ask(read(EXAMPLE), change, read(FIRST_TEXT), widths())[3], [1, 10])
            asked = ask(read(EXAMPLE), change, read(EXAMPLE), size(), heights(), lines(0, 0))
            self.assertEqual(asked[3:], [[2, 3, 23, 4], [3, 1, 1, 1], [23] + texts("Cities")])

    def test_badness_is_that_of_the_new_table(self):
        other = table(2, "@group", "abcdefghij | k")
        self.assertEqual(ask(read(EXAMPLE), put([6, 8]), read(other), put([6, 8]), total([6, 8]), find(200))[3:],
                         [[11, 17], [11, 17], [1, 0, 2, 10, 1]])

    def test_limits_do_not_change_widths(self):
        self.assertEqual(last(read(EXAMPLE), limit(0, 20, 30), limit(1, 1, 2), widths()), [2, 10, 10])

    def test_total_does_not_change_widths(self):
        self.assertEqual(last(read(EXAMPLE), total([3, 4]), widths()), [2, 10, 10])

    def test_asked_again(self):
        self.assertEqual(ask(read(EXAMPLE), put([3, 4]), widths(), widths())[2:], [[2, 3, 4]] * 2)


class WhatARefusalLeaves(unittest.TestCase):
    def test_put_find_and_read(self):
        before = [read(EXAMPLE), limit(0, 2, 9), side(0, 1), side(1, 2), put([7, 9])]
        behind = [show(), widths(), limit(0, 2, 9), limit(1, 1, 40), side(0, 1), side(1, 2), heights(), size()]
        expected = [text_of(EXAMPLE), [2, 7, 9], [0], [0], [0], [0], [3, 1, 1, 1], [2, 3, 19, 4]]
        refused = [put(told) for told in WRONG_LISTS] + [find(0), find(201), find(-FAR), find(1), find(4), read(""),
                                                         read("@table 1\n@group\na | b\n"), read("@table 2\n"), lines(3, 0)]
        for call in refused:
            with self.subTest(call=call):
                self.assertEqual(ask(*before, call, *behind)[6:], expected)
        self.assertEqual(ask(*before, *refused, *behind)[5 + len(refused):], expected)


if __name__ == "__main__":
    unittest.main()
