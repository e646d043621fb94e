import unittest

from tests.helper import EXAMPLE, ask, badness, broken, find, heights, last, limit, list_of, read, set_lines, show, size
from tests.helper import told_set, texts

SET_AT_17 = told_set("Cities" + " " * 11, "=" * 17, "Oslo   | the     ", "       | north   ", "Bergen | far west")


class Example(unittest.TestCase):
    def test_read(self):
        self.assertEqual(last(read(EXAMPLE)), [0, 3])

    def test_broken(self):
        self.assertEqual(last(read(EXAMPLE), broken(4, "Stavanger to")), [1] + texts("Stav", "ange", "r to"))

    def test_badness(self):
        asked = ask(read(EXAMPLE), badness(0, 5), badness(1, 8), badness(1, 5))
        self.assertEqual(asked[1:], [[11], [1], [2]])

    def test_limit(self):
        self.assertEqual(ask(read(EXAMPLE), limit(0, 8, 8), limit(0, 8, 8))[1:], [[1], [0]])

    def test_show_and_size(self):
        asked = ask(read(EXAMPLE), show(), size())
        self.assertEqual(asked[1:], [[len(EXAMPLE)] + list(EXAMPLE.encode()), [2, 3, 23, 4]])

    def test_whole(self):
        asked = ask(read(EXAMPLE), broken(4, "Stavanger to"), badness(0, 5), badness(1, 8), badness(1, 5), find(17),
                    heights(), set_lines(), find(18), find(30), limit(0, 8, 8), find(17), find(4))
        self.assertEqual(asked, [[0, 3], [1] + texts("Stav", "ange", "r to"), [11], [1], [2], [1, 1, 2, 6, 8],
                                 list_of([1, 2, 1]), SET_AT_17, [1, 0, 2, 6, 9], [1, 0, 2, 6, 9], [1],
                                 [1, 2, 2, 8, 5], [0]])


if __name__ == "__main__":
    unittest.main()
