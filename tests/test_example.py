import unittest

from tests.helper import EXAMPLE, ask, badness, broken, last, limit, read, show, size, texts


class Example(unittest.TestCase):
    def test_read(self):
        self.assertEqual(last(read(EXAMPLE)), [0, 3])

    def test_broken(self):
        self.assertEqual(last(read(EXAMPLE), broken(4, "Stavanger to")), [1] + texts("Stav", "ange", "r to"))

    def test_badness(self):
        asked = ask(read(EXAMPLE), badness(0, 5), badness(1, 8), badness(1, 5))
        self.assertEqual(asked[1:], [[11], [1], [2]])

    def test_limit(self):
        self.assertEqual(ask(read(EXAMPLE), limit(0, 8, 8), limit(0, 8, 8))[1:], [[1], [0]])

    def test_show_and_size(self):
        asked = ask(read(EXAMPLE), show(), size())
        self.assertEqual(asked[1:], [[len(EXAMPLE)] + list(EXAMPLE.encode()), [2, 3, 23, 4]])


if __name__ == "__main__":
    unittest.main()
