import unittest

from tests.helper import EXAMPLE, FAR, ask, ask_behind, last, lines, put, read, show, table, text_of, texts, widths

SPREAD = table(4, "@head", "one | ^2x2 two words and more | three", "four | five", "@group", "^1x3 a b c | ^3x1 down we go",
               "^2x1 | x\\|y | zz", "p | q")


class Lines(unittest.TestCase):
    def test_new_object(self):
        self.assertEqual(ask(lines(0, 0), put([3]), lines(0, 0)), [[10, 0], [0, 3], [3, 0]])

    def test_outside(self):
        places = [(3, 0), (0, 2), (-1, 0), (0, -1), (-1, -1), (-3, -2), (3, 2), (FAR, 0), (0, FAR), (-FAR, 0), (0, -FAR),
                  (FAR, FAR), (-FAR, -FAR), (1, -2), (-3, 0), (4, 1), (1, 12)]
        for place, answer in zip(places, ask_behind([read(EXAMPLE)], [lines(*place) for place in places])):
            self.assertEqual(answer, [-2], place)
        self.assertEqual(ask(lines(0, 1), lines(1, 0), lines(-1, 0), lines(0, -1)), [[-2]] * 4)

    def test_last_place(self):
        self.assertEqual(last(read(EXAMPLE), lines(2, 1)), [10] + texts("far west"))

    def test_each_place(self):
        told = [4, 5, 6, 7]
        two = [14] + texts("two words and", "more")
        first = [21] + texts("a b c")
        down = [7] + texts("down we", "go")
        expected = [[4] + texts("one"), two, two, [7] + texts("three"),
                    [4] + texts("four"), two, two, [7] + texts("five"),
                    first, first, first, down,
                    [4] + texts(), [5] + texts("x|y"), [6] + texts("zz"), down,
                    [4] + texts(), [5] + texts("p"), [6] + texts("q"), down]
        places = [(row, column) for row in range(5) for column in range(4)]
        asked = ask_behind([read(SPREAD), put(told)], [lines(*place) for place in places])
        for place, answer, wanted in zip(places, asked, expected):
            self.assertEqual(answer, wanted, place)

    def test_width_over_several_columns(self):
        text = table(12, "@group", "^1x12 " + "x" * 60, "^1x3 a | ^1x4 b | ^1x5 c")
        asked = ask(read(text), put([1] * 12), lines(0, 7), lines(1, 2), lines(1, 3), lines(1, 11), put([40] * 12),
                    lines(0, 0), lines(1, 0), lines(1, 6), lines(1, 7))
        self.assertEqual(asked[2:6], [[45] + texts("x" * 45, "x" * 15), [9] + texts("a"), [13] + texts("b"),
                                      [17] + texts("c")])
        self.assertEqual(asked[7:], [[513] + texts("x" * 60), [126] + texts("a"), [169] + texts("b"), [212] + texts("c")])

    def test_lines_are_broken_as_told(self):
        text = table(1, "@group", "abcdef g  hi jklmnopq r")
        self.assertEqual(last(read(text), put([4]), lines(0, 0)), [4] + texts("abcd", "ef g", "hi", "jklm", "nopq", "r"))

    def test_lines_do_not_change_anything(self):
        asked = ask(read(EXAMPLE), put([3, 4]), lines(1, 1), lines(9, 9), widths(), show())
        self.assertEqual(asked[4:], [[2, 3, 4], text_of(EXAMPLE)])


if __name__ == "__main__":
    unittest.main()
