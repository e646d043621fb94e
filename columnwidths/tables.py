"""The calls, taken from one list of whole numbers, and their answers."""

from columnwidths.breaking import break_text, count_cut_words
from columnwidths.finding import best_widths
from columnwidths.layout import cell_at
from columnwidths.measures import cell_lines, cell_width, room_for_widths, row_heights, set_line_count, table_width
from columnwidths.reading import read_table
from columnwidths.setting import set_text
from columnwidths.sheet import LEFT, MIDDLE, MOST_WIDTH, RIGHT, Sheet, is_width
from columnwidths.signs import is_cell_text

WRONG_FORM = -1
NOT_THERE = -2
OUT_OF_RANGE = -5

MOST_BREAKING_WIDTH = 200
MOST_PAGE = 200


def list_answer(numbers):
    """A list or a text as it is answered."""
    return [len(numbers)] + numbers


def texts_answer(texts):
    answer = [len(texts)]
    for text in texts:
        answer.extend(list_answer(text))
    return answer


def answer_read(sheet, numbers, row):
    outcome = read_table(row)
    if outcome.table is None:
        return [outcome.line, outcome.reason]
    sheet.hold(row, outcome.table)
    return [0, outcome.table.rows]


def answer_show(sheet, numbers, row):
    return list_answer(sheet.text)


def answer_broken(sheet, numbers, row):
    width = numbers[0]
    if width < 1 or width > MOST_BREAKING_WIDTH:
        return [NOT_THERE]
    if not is_cell_text(row):
        return [WRONG_FORM]
    return [count_cut_words(row, width)] + texts_answer(break_text(row, width))


def answer_limit(sheet, numbers, row):
    column = numbers[0]
    least = numbers[1]
    most = numbers[2]
    if not sheet.has_column(column):
        return [NOT_THERE]
    if not is_width(least) or most < least or most > MOST_WIDTH:
        return [OUT_OF_RANGE]
    changed = sheet.limits[column] != (least, most)
    sheet.limits[column] = (least, most)
    return [1 if changed else 0]


def answer_side(sheet, numbers, row):
    column = numbers[0]
    side = numbers[1]
    if not sheet.has_column(column):
        return [NOT_THERE]
    if side not in (LEFT, RIGHT, MIDDLE):
        return [OUT_OF_RANGE]
    changed = sheet.sides[column] != side
    sheet.sides[column] = side
    return [1 if changed else 0]


def answer_badness(sheet, numbers, row):
    column = numbers[0]
    width = numbers[1]
    if not sheet.has_column(column):
        return [NOT_THERE]
    if not is_width(width):
        return [OUT_OF_RANGE]
    return [sheet.badness_at(column, width)]


def answer_total(sheet, numbers, row):
    if not sheet.are_told_widths(row):
        return [WRONG_FORM]
    return [sheet.total_badness(row), table_width(row)]


def answer_find(sheet, numbers, row):
    page = numbers[0]
    if page < 1 or page > MOST_PAGE:
        return [OUT_OF_RANGE]
    columns = sheet.table.columns
    choices = [sheet.choices_of(column) for column in range(columns)]
    widths = best_widths(choices, room_for_widths(page, columns))
    if widths is None:
        return [0]
    sheet.widths = widths
    return [1, sheet.total_badness(widths)] + list_answer(widths)


def answer_put(sheet, numbers, row):
    if not sheet.are_told_widths(row):
        return [WRONG_FORM]
    sheet.widths = row
    return [sheet.total_badness(row), table_width(row)]


def answer_widths(sheet, numbers, row):
    return list_answer(sheet.widths)


def answer_heights(sheet, numbers, row):
    return list_answer(row_heights(sheet.table, sheet.widths))


def answer_lines(sheet, numbers, row):
    cell = cell_at(sheet.table, numbers[0], numbers[1])
    if cell is None:
        return [NOT_THERE]
    return [cell_width(cell, sheet.widths)] + texts_answer(cell_lines(cell, sheet.widths))


def answer_set(sheet, numbers, row):
    return list_answer(set_text(sheet))


def answer_size(sheet, numbers, row):
    table = sheet.table
    return [table.columns, table.rows, table_width(sheet.widths), set_line_count(table, sheet.widths)]


# For each call: what answers it, how many whole numbers it has, and whether a row stands behind them.
CALLS = {
    0: (answer_read, 0, True),
    1: (answer_show, 0, False),
    2: (answer_broken, 1, True),
    3: (answer_limit, 3, False),
    4: (answer_side, 2, False),
    5: (answer_badness, 2, False),
    6: (answer_total, 0, True),
    7: (answer_find, 1, False),
    8: (answer_put, 0, True),
    9: (answer_widths, 0, False),
    10: (answer_heights, 0, False),
    11: (answer_lines, 2, False),
    12: (answer_set, 0, False),
    13: (answer_size, 0, False),
}


def answers(calls):
    """The answers to the calls on one new object, each with how many numbers it has before it."""
    sheet = Sheet()
    answered = []
    at = 0
    while at < len(calls):
        call = CALLS[calls[at]]
        row_at = at + 1 + call[1]
        numbers = calls[at + 1:row_at]
        row = []
        at = row_at
        if call[2]:
            at = row_at + 1 + calls[row_at]
            row = calls[row_at + 1:at]
        answer_call = call[0]
        answer = answer_call(sheet, numbers, row)
        answered.append(len(answer))
        answered.extend(answer)
    return answered
