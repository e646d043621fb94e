import unittest

from tests.helper import FAR, ask, broken, last, show, text_of, texts, FIRST_TEXT


class Broken(unittest.TestCase):
    def check(self, w, text, cut, *lines):
        with self.subTest(w=w, text=text):
            self.assertEqual(last(broken(w, text)), [cut] + texts(*lines))

    def check_refused(self, w, text, refusal):
        with self.subTest(w=w, text=text):
            self.assertEqual(last(broken(w, text)), [refusal])

    def test_width_refused(self):
        for w in (0, -1, 201, FAR, -FAR):
            self.check_refused(w, "a", -2)
            self.check_refused(w, " ", -2)

    def test_width_edges(self):
        self.check(1, "a bc", 1, "a", "b", "c")
        self.check(200, "a bc", 0, "a bc")
        self.check(200, "x" * 60, 0, "x" * 60)

    def test_text_refused(self):
        for text in ("x" * 61, " a", "a ", " ", [97, 31], [127], [10], [0], [128], [255], [97, 9, 97]):
            self.check_refused(5, text, -1)

    def test_signs_need_no_backslash(self):
        self.check(2, "|^@\\", 1, "|^", "@\\")
        self.check(3, [126, 33], 0, "~!")

    def test_empty_text(self):
        self.check(1, "", 0)
        self.check(200, "", 0)

    def test_words_beside_the_width(self):
        self.check(3, "abc", 0, "abc")
        self.check(3, "abcd", 1, "abc", "d")
        self.check(3, "abc abcd abc", 1, "abc", "abc", "d", "abc")
        self.check(5, "ab cd", 0, "ab cd")
        self.check(4, "ab cd", 0, "ab", "cd")

    def test_several_blanks(self):
        self.check(5, "ab   cd", 0, "ab cd")
        self.check(4, "ab   cd", 0, "ab", "cd")
        self.check(10, "a  b    c", 0, "a b c")

    def test_behind_the_last_piece(self):
        self.check(4, "abcdef g", 1, "abcd", "ef g")
        self.check(4, "abcdef gh", 1, "abcd", "ef", "gh")
        self.check(4, "abcdefgh i", 1, "abcd", "efgh", "i")
        self.check(4, "abcde fghij", 2, "abcd", "e", "fghi", "j")
        self.check(4, "a bcdef", 1, "a", "bcde", "f")

    def test_lines_are_filled_in_order(self):
        self.check(7, "aaa bbb cc dd e", 0, "aaa bbb", "cc dd e")
        self.check(6, "aaa bbb cc dd e", 0, "aaa", "bbb cc", "dd e")

    def test_sixty_cut(self):
        self.check(1, "x" * 60, 1, *["x"] * 60)
        self.check(59, "x" * 60, 1, "x" * 59, "x")

    def test_table_stays(self):
        self.assertEqual(ask(broken(3, "abc"), show())[1], text_of(FIRST_TEXT))


if __name__ == "__main__":
    unittest.main()
