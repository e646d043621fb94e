"""Texts broken into lines."""

from columnwidths.signs import BLANK

BADNESS_OF_A_CUT = 10


def words_of(text):
    words = []
    word = []
    for byte in text + [BLANK]:
        if byte != BLANK:
            word.append(byte)
        elif len(word) > 0:
            words.append(word)
            word = []
    return words


def break_text(text, width):
    """The text's lines at this width."""
    lines = []
    for word in words_of(text):
        if len(word) > width:
            lines.extend([word[k:k + width] for k in range(0, len(word), width)])
        elif len(lines) > 0 and len(lines[-1]) + 1 + len(word) <= width:
            lines[-1] = lines[-1] + [BLANK] + word
        else:
            lines.append(word)
    return lines


def count_cut_words(text, width):
    return len([word for word in words_of(text) if len(word) > width])


def text_badness(text, width):
    more_lines = max(0, len(break_text(text, width)) - 1)
    return more_lines + BADNESS_OF_A_CUT * count_cut_words(text, width)
