"""Calls written as lists of whole numbers, and the answers taken apart again."""

from columnwidths.tables import answers

FIRST_TEXT = "@table 1\n@group\n\n"
EXAMPLE = "@table 2\n@head\n^1x2 Cities\n@group\nOslo | the north\nBergen | far west\n"
FAR = 10 ** 18


def text_of(text):
    data = list(text.encode("latin-1")) if isinstance(text, str) else list(text)
    return [len(data)] + data


def read(text):
    return [0] + text_of(text)


def show():
    return [1]


def broken(w, text):
    return [2, w] + text_of(text)


def limit(j, least, most):
    return [3, j, least, most]


def side(j, told):
    return [4, j, told]


def badness(j, w):
    return [5, j, w]


def total(widths):
    return [6, len(widths)] + list(widths)


def find(page):
    return [7, page]


def put(told):
    return [8, len(told)] + list(told)


def widths():
    return [9]


def heights():
    return [10]


def lines(row, column):
    return [11, row, column]


def set_lines():
    return [12]


def size():
    return [13]


def ask(*calls):
    """The answers to the calls on one object, a list each."""
    numbers = answers([number for call in calls for number in call])
    split = []
    at = 0
    while at < len(numbers):
        end = at + 1 + numbers[at]
        if end > len(numbers):
            raise AssertionError("a count that goes beyond the answers")
        split.append(numbers[at + 1:end])
        at = end
    if len(split) != len(calls):
        raise AssertionError(f"{len(split)} answers to {len(calls)} calls")
    return split


def last(*calls):
    return ask(*calls)[-1]


def ask_behind(before, calls):
    """The answers to the calls, however many, each one on an object on which those before were made."""
    asked = []
    step = 40 - len(before)
    for at in range(0, len(calls), step):
        asked += ask(*before, *calls[at:at + step])[len(before):]
    return asked


def table(columns, *rows):
    """The text of a table with these lines behind its first one."""
    return "".join(line + "\n" for line in (f"@table {columns}",) + rows)


def texts(*told):
    """How texts are answered."""
    numbers = [len(told)]
    for text in told:
        numbers += text_of(text)
    return numbers


def list_of(told):
    """How a list is answered."""
    return [len(told)] + list(told)


def told_set(*rows):
    """How these lines of a set table are answered."""
    return text_of("".join(line + "\n" for line in rows))


def set_rows(answer):
    """The lines that a set table was answered with."""
    if answer[0] != len(answer) - 1:
        raise AssertionError("a count that is not the text's")
    text = bytes(answer[1:]).decode("ascii")
    if not text.endswith("\n"):
        raise AssertionError("a last line that is not ended")
    return text[:-1].split("\n")
