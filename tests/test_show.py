import unittest

from tests.helper import EXAMPLE, FIRST_TEXT, ask, last, limit, read, show, side, table, text_of


class Show(unittest.TestCase):
    def test_new_objects_table(self):
        self.assertEqual(last(show()), text_of(FIRST_TEXT))

    def test_what_was_read(self):
        for text in (EXAMPLE, table(1, "@group a  b", "\\|\\^\\@\\\\", "", "a  b"), table(2, "@foot", "^2x2", "^"),
                     table(3, "@head", " |  | ", "@group", "^1x3 ~", "@group !", "^2x1 | b | c", "^1x2")):
            with self.subTest(text=text):
                self.assertEqual(last(read(text), show()), text_of(text))

    def test_last_table_counts(self):
        self.assertEqual(last(read(EXAMPLE), read(FIRST_TEXT), show()), text_of(FIRST_TEXT))

    def test_limits_and_sides_do_not_show(self):
        self.assertEqual(last(read(EXAMPLE), limit(0, 2, 3), side(0, 2), show()), text_of(EXAMPLE))

    def test_asked_again(self):
        self.assertEqual(ask(read(EXAMPLE), show(), show())[1:], [text_of(EXAMPLE)] * 2)


if __name__ == "__main__":
    unittest.main()
