"""The bytes that are known by name, and what texts, names and numbers may be made of."""

LINE_END = 10
BLANK = 32
ZERO = 48
NINE = 57
EQUALS = 61
AT = 64
BACKSLASH = 92
CARET = 94
LETTER_X = 120
BAR = 124
LAST_SIGN = 126

# The signs | ^ @ and the backslash: a cell's text has them in a line only behind a backslash.
MARKS = (124, 94, 64, 92)

LONGEST_CELL_TEXT = 60
LONGEST_GROUP_NAME = 20


def codes(word):
    """The bytes of a text of Python's own."""
    return [ord(sign) for sign in word]


def only_signs(text):
    return all([BLANK <= byte <= LAST_SIGN for byte in text])


def is_trimmed(text):
    """Whether the text neither begins nor ends with a blank."""
    return len(text) == 0 or (text[0] != BLANK and text[-1] != BLANK)


def is_cell_text(text):
    return len(text) <= LONGEST_CELL_TEXT and only_signs(text) and is_trimmed(text)


def is_group_name(text):
    if len(text) > LONGEST_GROUP_NAME or not only_signs(text) or not is_trimmed(text):
        return False
    return not any([byte in MARKS for byte in text])


def number_up_to(digits, most):
    """The number from 1 to most that is written so, without needless zeros; 0 if there is none."""
    value = 0
    for digit in digits:
        # A zero in front is needless, or the number is 0, which is never asked for.
        if digit < ZERO or digit > NINE or (value == 0 and digit == ZERO):
            return 0
        value = 10 * value + digit - ZERO
        if value > most:
            return 0
    return value
