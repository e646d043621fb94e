"""The calls, taken from one list of whole numbers, and their answers."""

from columnwidths.breaking import break_text, count_cut_words
from columnwidths.measures import column_badness, set_line_count, table_width, total_badness
from columnwidths.reading import read_table
from columnwidths.sheet import LEFT, MIDDLE, MOST_WIDTH, RIGHT, Sheet, is_width
from columnwidths.signs import is_cell_text

WRONG_FORM = -1
NOT_THERE = -2
OUT_OF_RANGE = -5

MOST_BREAKING_WIDTH = 200


def texts_answer(texts):
    answer = [len(texts)]
    for text in texts:
        answer.append(len(text))
        answer.extend(text)
    return answer


def answer_read(sheet, numbers, row):
    outcome = read_table(row)
    if outcome.table is None:
        return [outcome.line, outcome.reason]
    sheet.hold(row, outcome.table)
    return [0, outcome.table.rows]


def answer_show(sheet, numbers, row):
    return [len(sheet.text)] + sheet.text


def answer_broken(sheet, numbers, row):
    width = numbers[0]
    if width < 1 or width > MOST_BREAKING_WIDTH:
        return [NOT_THERE]
    if not is_cell_text(row):
        return [WRONG_FORM]
    return [count_cut_words(row, width)] + texts_answer(break_text(row, width))


def answer_limit(sheet, numbers, row):
    column = numbers[0]
    least = numbers[1]
    most = numbers[2]
    if not sheet.has_column(column):
        return [NOT_THERE]
    if not is_width(least) or most < least or most > MOST_WIDTH:
        return [OUT_OF_RANGE]
    changed = sheet.limits[column] != (least, most)
    sheet.limits[column] = (least, most)
    return [1 if changed else 0]


def answer_side(sheet, numbers, row):
    column = numbers[0]
    side = numbers[1]
    if not sheet.has_column(column):
        return [NOT_THERE]
    if side not in (LEFT, RIGHT, MIDDLE):
        return [OUT_OF_RANGE]
    changed = sheet.sides[column] != side
    sheet.sides[column] = side
    return [1 if changed else 0]


def answer_badness(sheet, numbers, row):
    column = numbers[0]
    width = numbers[1]
    if not sheet.has_column(column):
        return [NOT_THERE]
    if not is_width(width):
        return [OUT_OF_RANGE]
    return [column_badness(sheet.table, column, width)]


def answer_total(sheet, numbers, row):
    if not sheet.are_told_widths(row):
        return [WRONG_FORM]
    return [total_badness(sheet.table, row), table_width(row)]


def answer_size(sheet, numbers, row):
    table = sheet.table
    return [table.columns, table.rows, table_width(sheet.widths), set_line_count(table, sheet.widths)]


# For each call: what answers it, how many whole numbers it has, and whether a row stands behind them.
CALLS = {
    0: (answer_read, 0, True),
    1: (answer_show, 0, False),
    2: (answer_broken, 1, True),
    3: (answer_limit, 3, False),
    4: (answer_side, 2, False),
    5: (answer_badness, 2, False),
    6: (answer_total, 0, True),
    13: (answer_size, 0, False),
}


def answers(calls):
    """The answers to the calls on one new object, each with how many numbers it has before it."""
    sheet = Sheet()
    answered = []
    at = 0
    while at < len(calls):
        call = CALLS[calls[at]]
        row_at = at + 1 + call[1]
        numbers = calls[at + 1:row_at]
        row = []
        at = row_at
        if call[2]:
            at = row_at + 1 + calls[row_at]
            row = calls[row_at + 1:at]
        answer_call = call[0]
        answer = answer_call(sheet, numbers, row)
        answered.append(len(answer))
        answered.extend(answer)
    return answered
