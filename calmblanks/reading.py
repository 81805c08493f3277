"""Seen tables and webs read from texts."""

from calmblanks.basics import BLANK
from calmblanks.errors import BadText
from calmblanks.tables import Seen
from calmblanks.webs import Web

MOST_FIGURES = 60
NO_THING = -1


def is_figures(most, word):
    """Whether a word is a number of at most so many figures without needless zeros."""
    if not 1 <= len(word) <= most or not all([sign in "0123456789" for sign in word]):
        return False
    return word == "0" or word[0] != "0"


def is_sizes_line(words):
    return words[0] == "sizes" and all([is_figures(MOST_FIGURES, word) for word in words[1:]])


def is_share_line(words):
    if len(words) < 3 or words[-3] != ":":
        return False
    worths = [word for word in words[:-3] if word != "-"]
    return all([is_figures(MOST_FIGURES, word) for word in worths + words[-2:]])


def is_columns_line(words):
    return len(words) == 2 and words[0] == "columns" and is_figures(MOST_FIGURES, words[1])


def is_thing_word(word):
    return word[:1] in ("c", "b") and is_figures(MOST_FIGURES, word[1:])


def is_arrow_line(words):
    return len(words) == 3 and words[1] == ">" and is_thing_word(words[0]) and is_thing_word(words[2])


def lines_in_words(text, is_first, is_other):
    """The lines of a text, each as the list of its words, if they have the forms that they must have."""
    if not isinstance(text, str):
        raise BadText(0)
    parts = text.split("\n")
    lines = [part.split(" ") for part in parts[:-1]]
    for at, words in enumerate(lines):
        has_form = is_other(words) if at > 0 else is_first(words)
        if not has_form:
            raise BadText(at + 1)
    if len(lines) == 0 or parts[-1] != "":
        raise BadText(len(lines) + 1)
    return lines


def worth_of(word):
    return BLANK if word == "-" else int(word)


def share_of(words):
    return (tuple([worth_of(word) for word in words[:-3]]), (int(words[-2]), int(words[-1])))


def read_seen(text):
    lines = lines_in_words(text, is_sizes_line, is_share_line)
    return Seen(tuple([int(word) for word in lines[0][1:]]), tuple([share_of(words) for words in lines[1:]]))


def thing_of(columns, word):
    number = int(word[1:])
    if word[0] == "b":
        return columns + number
    # A column that the web has not must not be taken for one of its blanks.
    return number if number < columns else NO_THING


def read_web(text):
    lines = lines_in_words(text, is_columns_line, is_arrow_line)
    columns = int(lines[0][1])
    return Web(columns, tuple([(thing_of(columns, words[0]), thing_of(columns, words[2])) for words in lines[1:]]))
