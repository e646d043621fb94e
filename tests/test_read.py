import unittest

from tests.helper import EXAMPLE, FIRST_TEXT, ask, last, limit, read, show, side, size, table, text_of


class ReadCase(unittest.TestCase):
    def check(self, text, answer):
        with self.subTest(text=text):
            self.assertEqual(last(read(text)), answer)

    def check_row(self, columns, row, answer):
        """A row that is the first one of the first part: line 3."""
        self.check(table(columns, "@group", row), answer)


class Whole(ReadCase):
    def test_tables_without_fault(self):
        self.check(FIRST_TEXT, [0, 1])
        self.check(EXAMPLE, [0, 3])
        self.check(table(1, "@head", "a"), [0, 1])
        self.check(table(1, "@foot", "a"), [0, 1])
        self.check(table(1, "@head", "a", "@foot", "b"), [0, 2])
        self.check(table(1, "@head", "a", "@group", "b", "@group", "c", "@foot", "d"), [0, 4])
        self.check(table(12, "@group", " | ".join("abcdefghijkl")), [0, 1])
        self.check(table(3, "@group", "^2x1 a | b | c", "^1x2 d", "e | ^2x2 f", "g"), [0, 4])

    def test_caret_and_empty_line_as_rows(self):
        self.check(table(2, "@group", "^2x2 a", "^"), [0, 2])
        self.check(table(2, "@group", "^3x1 a | ^2x1", "^", "c"), [0, 3])
        self.check(table(2, "@group", "^2x1 | a", ""), [0, 2])
        self.check(table(1, "@group", "", ""), [0, 2])
        self.check(table(2, "@group", " | "), [0, 1])
        self.check(table(4, "@group", " |  |  | "), [0, 1])


class FirstReason(ReadCase):
    def test_line_that_is_not_ended(self):
        self.check("@table 1", [1, 1])
        self.check("@table 1\n@group", [2, 1])
        self.check("@table 1\n@group\na", [3, 1])
        self.check("@table 1\n@group\na\nb", [4, 1])
        self.check("x", [1, 1])

    def test_byte_that_is_no_sign(self):
        for byte in (0, 9, 11, 13, 31, 127, 128, 255):
            self.check(list(b"@table 1\n@group\na") + [byte] + list(b"b\n"), [3, 1])
        self.check(list(b"@table 1\n@group ") + [127] + list(b"\na\n"), [2, 1])
        self.check([0] + list(b"@table 1\n"), [1, 1])
        for byte in (33, 126):
            self.check(list(b"@table 1\n@group\na") + [byte] + list(b"b\n"), [0, 1])


class SecondReason(ReadCase):
    def test_text_without_lines(self):
        self.check("", [1, 2])

    def test_first_line(self):
        for columns in range(1, 13):
            self.check(f"@table {columns}\n@group\n{' | ' * (columns - 1)}\n", [0, 1])
        for line in ("", "@table", "@table ", "@table 0", "@table 13", "@table 01", "@table 012", "@table  1",
                     "@table 1 ", "@table 1x", "@table -1", "@table +1", "@table 100", "@Table 1", " @table 1",
                     "table 1", "@group", "a", "@table1", "@table :", "@table /", "@table " + "9" * 5000):
            self.check(line + "\n@group\n\n", [1, 2])

    def test_line_that_is_no_parts_line(self):
        for line in ("@", "@heads", "@head ", "@Head", "@foot ", "@foot x", "@head x", "@groups", "@group ",
                     "@table 1", "@@group", "@group  x", "@group x ", "@grou", "@tail"):
            self.check(table(1, line, "a"), [2, 2])
            self.check(table(1, "@group", "a", line, "a"), [4, 2])

    def test_row_before_any_part(self):
        self.check(table(1, "a", "@group", "a"), [2, 2])
        self.check(table(1, "", "@group", "a"), [2, 2])
        self.check(table(1, "^", "@group", "a"), [2, 2])
        self.check(table(1, "\\@group", "a"), [2, 2])

    def test_group_names(self):
        for name in ("x", "a b", "a  b", "x" * 20, "x" * 9 + "  " + "x" * 9, "!\"#$'()*+,-./:;<=>?[]_`{}~", "0"):
            self.check(table(1, "@group " + name[:20], "a"), [0, 1])
        for name in ("x" * 21, "a|b", "a^b", "a@b", "a\\b", "\\|", "|", "^", "@", "\\", " a", "a ", " "):
            self.check(table(1, "@group " + name, "a"), [2, 2])


class ThirdReason(ReadCase):
    def test_head_behind_a_part(self):
        for part in ("@head", "@group", "@foot"):
            self.check(table(1, part, "a", "@head", "b"), [4, 3])

    def test_group_behind_a_foot(self):
        self.check(table(1, "@foot", "a", "@group", "b"), [4, 3])
        self.check(table(1, "@group", "a", "@foot", "a", "@group x", "b"), [6, 3])

    def test_foot_behind_a_foot(self):
        self.check(table(1, "@foot", "a", "@foot", "b"), [4, 3])
        self.check(table(1, "@group", "a", "@foot", "a", "@foot", "b"), [6, 3])

    def test_twelve_groups(self):
        groups = ("@group", "a") * 12
        self.check(table(1, *groups), [0, 12])
        self.check(table(1, "@head", "a", *groups, "@foot", "a"), [0, 14])
        self.check(table(1, *groups, "@group", "a"), [26, 3])
        self.check(table(1, "@head", "a", *groups, "@group x", "a"), [28, 3])


class FourthReason(ReadCase):
    def test_signs_with_and_without_backslash(self):
        for row in ("\\|", "\\^", "\\@", "\\\\", "a\\|\\^\\@\\\\b", "\\^2x2", "\\\\\\|", "^1x2"):
            self.check_row(2 if row == "^1x2" else 1, row, [0, 1])
        self.check_row(2, "a\\\\ | b", [0, 1])
        self.check_row(1, "a \\| b", [0, 1])
        for row in ("a|b", "a^", "a^b", "a@b", "a\\", "\\a", "a\\ b", "\\\\\\", "|", "a\\x", "\\\\|", "\\~"):
            self.check_row(1, row, [3, 4])

    def test_blanks(self):
        self.check_row(1, "a  b", [0, 1])
        self.check_row(2, "a | ", [0, 1])
        self.check_row(2, " | b", [0, 1])
        for row in (" ", "  ", " a", "a ", "a| b", "a |b", "a  | b", "a |  b", " | | ", "| ", " |", "a | b ", " a | b",
                    "a | | b", "a || b", " | b |"):
            self.check_row(2, row, [3, 4])

    def test_cell_texts_of_60_and_61_signs(self):
        self.check_row(1, "x" * 60, [0, 1])
        self.check_row(1, "x" * 61, [3, 4])
        self.check_row(1, "\\|" * 60, [0, 1])
        self.check_row(1, "\\|" * 61, [3, 4])
        self.check_row(2, "^1x2 " + "x" * 60, [0, 1])
        self.check_row(2, "^1x2 " + "x" * 61, [3, 4])

    def test_rows_down(self):
        self.check(table(1, "@group", "^30x1 a", *["^"] * 29), [0, 30])
        self.check_row(1, "^31x1 a", [3, 4])
        self.check_row(1, "^0x1 a", [3, 4])
        self.check_row(1, "^300x1 a", [3, 4])

    def test_columns_to_the_right(self):
        self.check_row(12, "^1x12 a", [0, 1])
        self.check_row(12, "^1x13 a", [3, 4])
        self.check_row(12, "^1x0 a", [3, 4])
        self.check_row(12, "^1x120", [3, 4])

    def test_needless_zeros_and_reaches_that_are_none(self):
        for row in ("^01x2", "^1x02", "^1x1", "^1x1 a", "^x2", "^1x", "^x", "^12", "^1x2 ", "^1x2  a", "^1x2a", "^1X2",
                    "^1 x2", "^ 1x2", "^^", "^ ", "^1x2x3", "^-1x2", "^a", "^1x2 a ", "^1x2\\|", "^1x2 ^1x2", "^1x2 a|",
                    "^1x2 | ^", "^ | ^1x2", "a^1x2", "^1\\x2", "\\^1x2^"):
            self.check_row(2, row, [3, 4])

    def test_reaching_cells(self):
        self.check_row(2, "^1x2", [0, 1])
        self.check_row(2, "^1x2 a", [0, 1])
        self.check_row(2, "^1x2 \\^1x2", [0, 1])
        self.check(table(2, "@group", "^2x1 | b", ""), [0, 2])
        self.check(table(2, "@group", "a | ^2x1", "b"), [0, 2])
        self.check(table(2, "@group", "^10x2", *["^"] * 9), [0, 10])


class FifthReason(ReadCase):
    def test_rows_of_a_part(self):
        for part in ("@head", "@group", "@foot"):
            self.check(table(1, part, *["a"] * 30), [0, 30])
            self.check(table(1, part, *["a"] * 31), [33, 5])
        self.check(table(1, "@group", "a", "@group", *["a"] * 31), [35, 5])

    def test_rows_of_a_table(self):
        twenty = ("@group",) + ("a",) * 20
        self.check(table(1, *twenty * 3), [0, 60])
        self.check(table(1, *twenty * 3, "@foot", "a"), [66, 5])
        self.check(table(1, "@head", "a", *twenty * 2, "@foot", *["a"] * 19), [0, 60])
        self.check(table(1, "@head", "a", *twenty * 2, "@foot", *["a"] * 20), [66, 5])


class SixthReason(ReadCase):
    def test_no_free_column(self):
        self.check_row(1, "a | b", [3, 6])
        self.check_row(2, " |  | ", [3, 6])
        self.check(table(1, "@group", "^2x1 a", "b"), [4, 6])
        self.check(table(1, "@group", "^2x1 a", ""), [4, 6])

    def test_covered_place(self):
        self.check(table(3, "@group", "a | ^2x1 b | c", "^1x2 d | e"), [4, 6])
        self.check(table(3, "@group", "a | b | ^2x1 c", "^1x3 d"), [4, 6])

    def test_beyond_the_last_column(self):
        self.check_row(1, "^1x2 a", [3, 6])
        self.check_row(2, "a | ^1x2 b", [3, 6])
        self.check_row(11, "^1x12", [3, 6])


class SeventhReason(ReadCase):
    def test_free_places(self):
        self.check_row(2, "a", [3, 7])
        self.check_row(2, "", [3, 7])
        self.check_row(1, "^", [3, 7])
        self.check_row(3, "^1x2 a", [3, 7])
        self.check(table(2, "@group", "^2x1 a | b", "^"), [4, 7])
        self.check(table(3, "@group", "a | ^2x1 b | c", "d"), [4, 7])


class EighthReason(ReadCase):
    def test_part_without_rows(self):
        self.check(table(1, "@head", "@group", "a"), [3, 8])
        self.check(table(1, "@group", "a", "@group", "@foot", "a"), [5, 8])
        self.check(table(1, "@group"), [3, 8])
        self.check(table(1, "@group", "a", "@foot"), [5, 8])

    def test_cell_below_the_last_row(self):
        self.check(table(1, "@head", "^2x1 a", "@group", "a"), [4, 8])
        self.check(table(1, "@group", "^2x1 a"), [4, 8])
        self.check(table(2, "@group", "a | ^3x1 b", "c", "@foot", "^1x2"), [5, 8])
        self.check(table(2, "@group", "a | ^3x1 b", "c"), [5, 8])
        self.check(table(2, "@group", "a | ^3x1 b", "c", "d"), [0, 3])


class NinthReason(ReadCase):
    def test_no_part(self):
        self.check("@table 1\n", [2, 9])
        self.check("@table 12\n", [2, 9])


class SeveralFaults(ReadCase):
    def test_two_in_one_line(self):
        self.check("@tables", [1, 1])
        self.check("@table 1\n@group\na\n@nothing", [4, 1])
        self.check([9, 10], [1, 1])
        self.check(table(1, "@head", "@heads", "a"), [3, 2])
        self.check(table(1, "@head", "@head", "a"), [3, 3])
        self.check(table(1, "@foot", "^2x1 a", "@group", "a"), [4, 3])
        self.check(table(1, "@group", *["a"] * 30, "a|"), [33, 4])
        self.check(table(1, "@group", *["a"] * 30, "a | b"), [33, 5])
        self.check(table(2, "@group", *["a | b"] * 30, "a"), [33, 5])
        self.check(table(2, "@group", "^1x3"), [3, 6])
        self.check(table(3, "@group", "a | b | ^2x1 c", "a | ^1x2 b"), [4, 6])
        self.check(table(2, "a|"), [2, 2])

    def test_in_two_lines(self):
        self.check(table(2, "@group", "a", "|"), [3, 7])
        self.check(table(2, "@group", "|", "\x7f"), [3, 4])
        self.check("@table 13\n@group\na", [1, 2])
        self.check(table(1, "@head", "@group", "a|"), [3, 8])
        self.check(table(1, "@group", "^2x1", "@group", "^"), [4, 8])
        self.check(table(1, "@group", "a", "@foot", "a|", "@foot"), [5, 4])


class WhatAFaultLeaves(unittest.TestCase):
    def test_everything_stays(self):
        before = [read(EXAMPLE), limit(0, 2, 8), side(1, 2)]
        for fault in ("", "x", "@table 1\n", table(1, "@group", "a | b"), table(3, "@group")):
            asked = ask(*before, read(fault), show(), limit(0, 2, 8), side(1, 2), limit(1, 1, 40), side(0, 0), size())
            with self.subTest(fault=fault):
                self.assertEqual(asked[4], text_of(EXAMPLE))
                self.assertEqual(asked[5:], [[0], [0], [0], [0], [2, 3, 23, 4]])

    def test_first_table_stays(self):
        self.assertEqual(ask(read("x"), show()), [[1, 1], text_of(FIRST_TEXT)])


class WhatATextSetsBack(unittest.TestCase):
    def test_limits_and_sides_are_as_at_first(self):
        changes = [read(EXAMPLE), limit(0, 2, 8), limit(1, 1, 39), side(0, 1), side(1, 2)]
        asked = ask(*changes, read(EXAMPLE), limit(0, 1, 40), limit(1, 1, 40), side(0, 0), side(1, 0), size())
        self.assertEqual(asked[5:], [[0, 3], [0], [0], [0], [0], [2, 3, 23, 4]])

    def test_each_new_column_has_its_own(self):
        text = table(3, "@group", "a | b | c")
        asked = ask(read(text), limit(1, 2, 3), side(1, 1), limit(0, 1, 40), limit(2, 1, 40), side(0, 0), side(2, 0))
        self.assertEqual(asked[1:], [[1], [1], [0], [0], [0], [0]])

    def test_another_number_of_columns(self):
        asked = ask(read(EXAMPLE), read(FIRST_TEXT), limit(1, 1, 40), side(1, 0), limit(0, 1, 40), size())
        self.assertEqual(asked[2:], [[-2], [-2], [0], [1, 1, 10, 1]])


if __name__ == "__main__":
    unittest.main()
