import unittest

from columnwidths.tables import answers
from tests.helper import EXAMPLE, FIRST_TEXT, ask, badness, broken, find, heights, limit, lines, list_of, put, read
from tests.helper import set_lines, show, side, size, table, text_of, texts, told_set, total, widths

ALL_CALLS = [read(EXAMPLE), show(), broken(4, "Stavanger to"), limit(0, 8, 8), side(1, 2), badness(0, 5), total([6, 8]),
             size(), read("x"), badness(2, 5), total([6]), broken(0, ""), find(17), put([6, 8]), widths(), heights(),
             lines(1, 1), set_lines(), size(), find(0), find(4), put([6]), lines(3, 0)]
# They change nothing, so that their order doesn't matter.
ASKING = [show(), broken(4, "Stavanger to"), badness(0, 5), total([6, 8]), widths(), heights(), lines(1, 1), set_lines(),
          size(), badness(2, 5), total([6]), broken(0, ""), find(0), find(4), put([6]), lines(3, 0), read("x")]


class Untouchable(list):
    """A list that can't be changed, not for a while either."""

    def refuse(self, *told):
        raise AssertionError("the list handed in is changed")

    __setitem__ = __delitem__ = __iadd__ = __imul__ = refuse
    append = extend = insert = pop = remove = clear = sort = reverse = refuse


def joined(calls):
    return [number for call in calls for number in call]


class Interface(unittest.TestCase):
    def test_numbers_and_counts(self):
        told = answers([5, 0, 5, 3, 0, 1, 40, 6, 1, 7, 2, 2, 3, 97, 98, 99, 4, 1, 0, 1, 0, 1, 120, 13])
        first = list(b"@table 1\n@group\n\n")
        self.assertEqual(told, [1, 0, 1, 0, 2, 0, 7, 7, 1, 2, 2, 97, 98, 1, 99, 1, -2, 18, 17] + first
                         + [2, 1, 1, 4, 1, 1, 10, 1])

    def test_several_calls_in_one_list(self):
        asked = ask(*ALL_CALLS)
        self.assertEqual(asked[0], [0, 3])
        self.assertEqual(asked[1], text_of(EXAMPLE))
        self.assertEqual(asked[3:12], [[1], [1], [11], [1, 17], [2, 3, 23, 4], [1, 1], [-2], [-1], [-2]])
        self.assertEqual(asked[12:17], [[1, 2, 2, 8, 5], [1, 17], [2, 6, 8], [3, 1, 2, 1], [8] + texts("the", "north")])
        self.assertEqual(asked[17], told_set("Cities" + " " * 11, "=" * 17, "Oslo   |   the   ", "       |  north  ",
                                             "Bergen | far west"))
        self.assertEqual(asked[18:], [[2, 3, 17, 5], [-5], [0], [-1], [-2]])

    def test_numbers_of_the_later_calls(self):
        told = answers([8, 1, 3, 9, 10, 11, 0, 0, 12, 7, 20, 13, 8, 0, 7, -1, 11, 1, 0])
        self.assertEqual(told, [2, 0, 3, 2, 1, 3, 2, 1, 1, 2, 3, 0, 5, 4, 32, 32, 32, 10, 4, 1, 0, 1, 1, 4, 1, 1, 1, 1]
                         + [1, -1, 1, -5, 1, -2])

    def test_any_order(self):
        before = [read(EXAMPLE), side(1, 1), put([6, 8])]
        expected = ask(*before, *ASKING)[3:]
        count = len(ASKING)
        for step in (1, 2, 3, 5, 7, 16):
            order = [(k * step + step) % count for k in range(37)]
            asked = ask(*before, *[ASKING[k] for k in order])
            self.assertEqual(asked[3:], [expected[k] for k in order], step)

    def test_empty_rows(self):
        self.assertEqual(answers([0, 0, 2, 5, 0, 6, 0]), [2, 1, 2, 2, 0, 0, 1, -1])

    def test_refused_calls_leave_everything(self):
        before = [read(EXAMPLE), limit(0, 2, 9), side(0, 1)]
        refused = [broken(0, "a"), broken(1, " "), limit(2, 1, 1), limit(0, 0, 1), side(2, 2), side(0, 3), badness(2, 1),
                   badness(0, 0), total([1]), total([0, 1])]
        behind = [show(), limit(0, 2, 9), side(0, 1), size(), badness(0, 5), total([6, 8])]
        asked = ask(*before, *refused, *behind)
        self.assertEqual(asked[3:13], [[-2], [-1], [-2], [-5], [-2], [-5], [-2], [-5], [-1], [-1]])
        self.assertEqual(asked[13:], [text_of(EXAMPLE), [0], [0], [2, 3, 23, 4], [11], [1, 17]])

    def test_list_handed_in_is_unchanged(self):
        calls = joined(ALL_CALLS)
        kept = list(calls)
        answers(calls)
        self.assertEqual(calls, kept)
        self.assertEqual(answers(Untouchable(kept)), answers(kept))

    def test_nothing_is_kept(self):
        calls = joined(ALL_CALLS)
        self.assertEqual(answers(calls), answers(calls))
        self.assertEqual(ask(show(), limit(0, 1, 40), side(0, 0)), [text_of(FIRST_TEXT), [0], [0]])
        answers(put([3]) + side(0, 1) + limit(0, 5, 5) + find(7))
        self.assertEqual(ask(widths(), heights(), set_lines(), size(), find(7)),
                         [[1, 10], [1, 1], told_set(" " * 10), [1, 1, 10, 1], [1, 0, 1, 1]])

    def test_answer_is_not_the_next_ones(self):
        told = answers(show())
        told.append(7)
        self.assertEqual(answers(show()), [18] + text_of(FIRST_TEXT))

    def test_whole_numbers(self):
        told = answers(joined(ALL_CALLS))
        self.assertTrue(isinstance(told, list))
        self.assertEqual({type(number) for number in told}, {int})

    def test_forty_calls(self):
        self.assertEqual(ask(*[side(0, k % 3) for k in range(40)]), [[0]] + [[1]] * 39)
        self.assertEqual(ask(*[put([k]) if k % 2 else widths() for k in range(1, 41)])[1::2],
                         [list_of([k]) for k in range(1, 41, 2)])

    def test_long_texts(self):
        whole = [" | ".join(["x" * 20] * 12)] * 30
        self.assertEqual(ask(read(table(12, "@head", *whole, "@foot", *whole)), size())[1], [12, 60, 153, 121])
        longer = [" | ".join(["x" * 21] * 12)] * 30
        cut_off = table(12, "@head", *longer, "@foot", *longer)[:16900]
        self.assertEqual(len(cut_off), 16900)
        self.assertEqual(ask(read(cut_off)), [[63, 1]])
        self.assertEqual(ask(broken(5, "x" * 16900)), [[-1]])
        self.assertEqual(ask(read("@table 1\n@group\n" + "\\" * 16880 + "\n")), [[3, 4]])


if __name__ == "__main__":
    unittest.main()
