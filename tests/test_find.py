import itertools
import random
import signal
import unittest

from tests.helper import EXAMPLE, FAR, ask, ask_behind, badness, find, heights, last, limit, lines, list_of, put, read
from tests.helper import set_lines, side, size, table, texts, told_set, total, widths

WORDS = ("a", "to", "the", "four", "fiver", "longer", "longest", "over-long", "extraordinary")


def column_costs(text, columns):
    """For each column its badness at each width, from 1 on."""
    calls = [badness(j, w) for j in range(columns) for w in range(1, 41)]
    flat = [answer[0] for answer in ask_behind([read(text)], calls)]
    return [dict(zip(range(1, 41), flat[40 * j:40 * j + 40])) for j in range(columns)]


def searched(costs, limits, page):
    """What find is to answer, by looking at all widths there are."""
    ways = []
    for told in itertools.product(*[range(least, most + 1) for least, most in limits]):
        if sum(told) + 3 * (len(told) - 1) <= page:
            ways.append((sum(cost[w] for cost, w in zip(costs, told)), told))
    if not ways:
        return [0]
    return [1, min(ways)[0]] + list_of(min(ways)[1])


def stepped(costs, page):
    """The same without limits, from the first column on: the best widths for each sum they may have."""
    room = page - 3 * (len(costs) - 1)
    best = {0: (0, ())}
    for cost in costs:
        longer = {}
        for used, (bad, told) in best.items():
            for w in range(1, 41):
                way = (bad + cost[w], told + (w,))
                if used + w <= room and (used + w not in longer or way < longer[used + w]):
                    longer[used + w] = way
        best = longer
    if not best:
        return [0]
    return [1, min(best.values())[0]] + list_of(min(best.values())[1])


def some_row(source, columns):
    return " | ".join(" ".join(source.choices(WORDS, k=source.randint(0, 4))) for k in range(columns))


class Refused(unittest.TestCase):
    def test_pages(self):
        for page in (0, -1, 201, 202, FAR, -FAR):
            asked = ask(read(EXAMPLE), put([7, 9]), limit(0, 3, 8), side(1, 2), find(page), widths(), limit(0, 3, 8),
                        side(1, 2))
            self.assertEqual(asked[4:], [[-5], [2, 7, 9], [0], [0]], page)

    def test_page_edges(self):
        self.assertEqual(ask(find(1), widths(), find(200), widths()), [[1, 0, 1, 1], [1, 1]] * 2)
        self.assertEqual(last(read(EXAMPLE), find(1)), [0])
        self.assertEqual(last(read(EXAMPLE), find(200)), [1, 0, 2, 6, 9])


class NoneFit(unittest.TestCase):
    def check(self, before, page):
        asked = ask(*before, put([7, 9]), find(page), widths(), size())
        with self.subTest(before=before, page=page):
            self.assertEqual(asked[-3:], [[0], [2, 7, 9], [2, 3, 19, 4]])

    def test_page_too_narrow(self):
        for page in (1, 2, 3, 4):
            self.check([read(EXAMPLE)], page)
        self.assertEqual(last(read(EXAMPLE), find(5))[:1], [1])

    def test_limits_too_wide(self):
        self.check([read(EXAMPLE), limit(0, 8, 9)], 11)
        self.assertEqual(last(read(EXAMPLE), limit(0, 8, 9), find(12)), [1, 53, 2, 8, 1])
        self.check([read(EXAMPLE), limit(0, 40, 40), limit(1, 40, 40)], 82)
        self.assertEqual(last(read(EXAMPLE), limit(0, 40, 40), limit(1, 40, 40), find(83)), [1, 0, 2, 40, 40])

    def test_one_column(self):
        asked = ask(limit(0, 9, 20), find(8), widths(), find(9), widths())
        self.assertEqual(asked[1:], [[0], [1, 10], [1, 0, 1, 9], [1, 9]])

    def test_twelve_columns(self):
        text = table(12, "@group", " | ".join(["a"] * 12))
        asked = ask(read(text), find(32), find(44), widths(), find(45), widths())
        self.assertEqual(asked[1:], [[0], [0], list_of([10] * 12), [1, 0] + list_of([1] * 12), list_of([1] * 12)])


class Limits(unittest.TestCase):
    def test_one_width_alone(self):
        self.assertEqual(last(read(EXAMPLE), limit(0, 3, 3), limit(1, 30, 30), find(200)), [1, 22, 2, 3, 30])
        self.assertEqual(last(read(EXAMPLE), limit(0, 8, 8), find(17)), [1, 2, 2, 8, 5])
        self.assertEqual(last(read(EXAMPLE), limit(1, 4, 4), find(200)), [1, 13, 2, 6, 4])

    def test_least_and_most(self):
        self.assertEqual(last(read(EXAMPLE), limit(0, 10, 40), limit(1, 12, 20), find(200)), [1, 0, 2, 10, 12])
        self.assertEqual(last(read(EXAMPLE), limit(0, 1, 5), limit(1, 1, 8), find(200)), [1, 12, 2, 4, 8])

    def test_widths_that_were_put_do_not_matter(self):
        self.assertEqual(last(read(EXAMPLE), put([40, 1]), find(17)), [1, 1, 2, 6, 8])

    def test_limits_stay(self):
        self.assertEqual(ask(read(EXAMPLE), limit(0, 2, 9), find(17), limit(0, 2, 9), limit(1, 1, 40))[3:], [[0], [0]])


class SeveralBest(unittest.TestCase):
    def test_lesser_width_for_the_first_column(self):
        text = table(2, "@group", "aa bb | aa bb")
        self.assertEqual(last(read(text), find(10)), [1, 1, 2, 2, 5])
        self.assertEqual(last(read(text), find(11)), [1, 1, 2, 2, 5])
        self.assertEqual(last(read(text), find(12)), [1, 1, 2, 2, 5])
        self.assertEqual(last(read(text), find(13)), [1, 0, 2, 5, 5])

    def test_first_column_for_which_they_differ(self):
        text = table(3, "@group", "abc | aa bb | aa bb")
        self.assertEqual(last(read(text), find(16)), [1, 1, 3, 3, 2, 5])

    def test_first_column_before_the_sum(self):
        text = table(2, "@group", "a b | aaaa bbbb")
        self.assertEqual(last(read(text), find(8)), [1, 2, 2, 1, 4])
        self.assertEqual(last(read(text), find(13)), [1, 1, 2, 1, 9])

    def test_wider_than_needed(self):
        text = table(2, "@group", "aa bb | ccc", "^1x2 not of any column")
        for page in (11, 12, 50, 199, 200):
            self.assertEqual(last(read(text), find(page)), [1, 0, 2, 5, 3], page)

    def test_columns_without_texts(self):
        text = table(3, "@group", " | abcdefgh | ", "^1x3 wide")
        self.assertEqual(last(read(text), find(200)), [1, 0, 3, 1, 8, 1])
        self.assertEqual(last(read(text), find(12)), [1, 11, 3, 1, 4, 1])

    def test_page_wider_than_the_widest_columns(self):
        text = table(1, "@group", "x" * 60, "y" * 41)
        for page in (30, 39, 40, 41, 200):
            self.assertEqual(last(read(text), find(page)), [1, 22, 1, 30], page)
        self.assertEqual(last(read(text), find(29)), [1, 23, 1, 21])
        self.assertEqual(last(read(table(1, "@group", "x" * 40)), find(200)), [1, 0, 1, 40])
        self.assertEqual(last(read(table(1, "@group", "x" * 40)), find(39)), [1, 11, 1, 20])


class WhatGoesByTheFoundWidths(unittest.TestCase):
    def test_all_of_them(self):
        asked = ask(read(EXAMPLE), find(17), widths(), heights(), lines(0, 0), lines(1, 1), set_lines(), size(),
                    find(18), widths(), heights(), lines(0, 0), lines(1, 1), set_lines(), size())
        self.assertEqual(asked[2:6], [[2, 6, 8], [3, 1, 2, 1], [17] + texts("Cities"), [8] + texts("the", "north")])
        self.assertEqual(asked[7], [2, 3, 17, 5])
        self.assertEqual(asked[9:13], [[2, 6, 9], [3, 1, 1, 1], [18] + texts("Cities"), [9] + texts("the north")])
        self.assertEqual(asked[13], told_set("Cities" + " " * 12, "=" * 18, "Oslo   | the north", "Bergen | far west "))
        self.assertEqual(asked[14], [2, 3, 18, 4])

    def test_total_of_the_found_widths(self):
        self.assertEqual(ask(read(EXAMPLE), find(12), total([4, 5]))[1:], [[1, 13, 2, 4, 5], [13, 12]])


class AgainstASearch(unittest.TestCase):
    def check(self, text, columns, pages, all_limits):
        costs = column_costs(text, columns)
        for limits in all_limits:
            before = [read(text)] + [limit(j, least, most) for j, (least, most) in enumerate(limits)]
            asked = ask_behind(before, [find(page) for page in pages])
            for page, answer in zip(pages, asked):
                with self.subTest(text=text, limits=limits, page=page):
                    self.assertEqual(answer, searched(costs, limits, page))

    def test_small_tables(self):
        source = random.Random(8)
        for columns in (1, 2, 3, 4):
            most = (40, 16, 9, 6)[columns - 1]
            for k in range(6):
                text = table(columns, "@group", *[some_row(source, columns) for row in range(source.randint(1, 4))])
                some = [tuple(sorted((source.randint(1, most), source.randint(1, most)))) for j in range(columns)]
                self.check(text, columns, range(1, 60), [[(1, most)] * columns, some])

    def test_cells_over_several_columns_and_rows(self):
        text = table(3, "@head", "^1x2 a head over two | ^2x1 two down", "one | two words", "@group", "^2x2 both ways | x y z",
                     "zz zz", "a b | c d | e f")
        self.check(text, 3, range(1, 50), [[(1, 10)] * 3, [(2, 8), (1, 12), (3, 9)]])


class TwelveColumns(unittest.TestCase):
    def setUp(self):
        # A search over all widths would not end: better a failed test than one that stands still.
        def too_long(number, frame):
            raise AssertionError("find does not end soon")
        self.before = signal.signal(signal.SIGALRM, too_long)
        signal.alarm(60)

    def tearDown(self):
        signal.alarm(0)
        signal.signal(signal.SIGALRM, self.before)

    def test_against_another_way(self):
        source = random.Random(12)
        for rows in (1, 5, 9):
            text = table(12, "@group", *[some_row(source, 12) for row in range(rows)])
            costs = column_costs(text, 12)
            pages = (44, 45, 46, 60, 77, 100, 133, 150, 199, 200)
            for page, answer in zip(pages, ask_behind([read(text)], [find(page) for page in pages])):
                with self.subTest(text=text, page=page):
                    self.assertEqual(answer, stepped(costs, page))

    def test_ends_soon(self):
        full = [" | ".join(["a bb ccc dddd eeeee"] * 12)] * 30
        asked = ask(read(table(12, "@head", *full, "@foot", *full)), *[find(200)] * 39)
        self.assertEqual(len(set(map(tuple, asked[1:]))), 1)
        self.assertEqual(asked[1][:1] + asked[1][2:3], [1, 12])
        self.assertLessEqual(sum(asked[1][3:]) + 33, 200)


if __name__ == "__main__":
    unittest.main()
