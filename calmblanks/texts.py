"""Seen tables and webs as texts."""

from calmblanks.basics import BLANK

# Python does not write numbers of more than 4300 figures at once.
PART_FIGURES = 64
PART = 10 ** 64


def figures(number):
    """A number from 0 on as it is written."""
    parts = []
    while number >= PART:
        number, part = divmod(number, PART)
        parts.append(str(part).zfill(PART_FIGURES))
    parts.append(str(number))
    return "".join(parts[::-1])


def line_of(words):
    return " ".join(words) + "\n"


def worth_word(worth):
    return "-" if worth == BLANK else figures(worth)


def seen_text(seen):
    lines = [line_of(["sizes"] + [figures(size) for size in seen.sizes])]
    for key, fraction in seen.shares:
        lines.append(line_of([worth_word(worth) for worth in key] + [":", figures(fraction[0]), figures(fraction[1])]))
    return "".join(lines)


def thing_word(web, thing):
    if thing < web.columns:
        return "c" + figures(thing)
    return "b" + figures(thing - web.columns)


def web_text(web):
    lines = [line_of(["columns", figures(web.columns)])]
    for tail, head in web.arrows:
        lines.append(line_of([thing_word(web, tail), ">", thing_word(web, head)]))
    return "".join(lines)
