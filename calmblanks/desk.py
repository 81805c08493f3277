"""A desk that leads a store of rows, and a web, by lines."""

from calmblanks.basics import BLANK, is_view
from calmblanks.couldbe import could_be
from calmblanks.errors import BlankError, NoArrow, NoLine, NoLines
from calmblanks.questions import answered, bounds
from calmblanks.reading import is_figures
from calmblanks.store import Rows
from calmblanks.telling import tells
from calmblanks.texts import figures, thing_word, worth_word
from calmblanks.webs import Web, wrong_in_web

MOST_FIGURES = 9
OK = "ok"
NONE = "none"
# For each first word the forms of what stands behind it.
FORMS = {
    "add": ("view",), "mend": ("number", "view"), "strike": ("number",), "undo": (), "ask": ("text",),
    "bounds": ("text",), "plain": ("text",), "arrow": ("thing", "thing"), "noarrow": ("thing", "thing"), "tells": (),
    "could": (), "rows": (), "counts": (),
}
# The sign of each worth, from that of a blank on.
WORTH_SIGNS = "-0123"


def number_of(word):
    """The number that a word is, None if it is none."""
    return int(word) if is_figures(MOST_FIGURES, word) else None


def view_of(sizes, word):
    """The view that a word is, None if it is none."""
    view = tuple([WORTH_SIGNS.find(sign) + BLANK for sign in word])
    return view if is_view(sizes, view) else None


def thing_of(web, word):
    """The thing that a word is, None if it is none."""
    words = [thing_word(web, thing) for thing in range(2 * web.columns)]
    return words.index(word) if word in words else None


def value_of(desk, form, word):
    if form == "number":
        return number_of(word)
    return view_of(desk.store.sizes, word) if form == "view" else thing_of(desk.web, word)


def values_of(desk, forms, text):
    """What the words of a text tell, each of which has its form."""
    words = text.split(" ")
    if len(words) != len(forms):
        raise NoLine()
    values = [value_of(desk, form, word) for form, word in zip(forms, words)]
    if None in values:
        raise NoLine()
    return values


def read_line(desk, line):
    """The first word of a line, and the list of what those behind it tell."""
    if not isinstance(line, str):
        raise NoLine()
    word, blank, text = line.partition(" ")
    # There is a blank just where something stands behind it, be it an empty text.
    if word not in FORMS or (blank == "") != (FORMS[word] == ()):
        raise NoLine()
    if FORMS[word] == ("text",):
        return (word, [text])
    return (word, values_of(desk, FORMS[word], text) if blank != "" else [])


def answer_text(fraction):
    return NONE if fraction is None else figures(fraction[0]) + "/" + figures(fraction[1])


def yes_or_no(flag):
    return "yes" if flag else "no"


def view_word(view):
    return "".join([worth_word(worth) for worth in view])


def add_row(desk, values):
    return figures(desk.store.add(values[0]))


def mend_row(desk, values):
    desk.store.mend(values[0], values[1])
    return OK


def strike_row(desk, values):
    desk.store.strike(values[0])
    return OK


def undo_deed(desk, values):
    desk.store.undo()
    return OK


def ask_calm(desk, values):
    return answer_text(desk.store.ask(values[0]))


def tell_bounds(desk, values):
    pair = bounds(desk.store.seen(), values[0])
    return NONE if pair is None else answer_text(pair[0]) + " " + answer_text(pair[1])


def ask_plain(desk, values):
    """The answer by the rows in which all is seen alone."""
    sizes = desk.store.sizes
    counts = desk.store.counts()
    everything = tuple(range(len(sizes)))
    pairs = [((view, everything), (counts[view], 1)) for view in counts if BLANK not in view]
    return answer_text(answered(sizes, pairs, values[0]))


def put_arrow(desk, values):
    arrow = (values[0], values[1])
    arrows = tuple(sorted(desk.web.arrows + (arrow,)))
    # An arrow that is there already would stand there twice, which no web lets it.
    if wrong_in_web(desk.web.columns, arrows) is not None:
        raise NoArrow()
    desk.web = Web(desk.web.columns, arrows)
    return OK


def take_arrow(desk, values):
    arrow = (values[0], values[1])
    if arrow not in desk.web.arrows:
        raise NoArrow()
    desk.web = Web(desk.web.columns, tuple([own for own in desk.web.arrows if own != arrow]))
    return OK


def tell_tells(desk, values):
    return yes_or_no(tells(desk.web))


def tell_could(desk, values):
    return yes_or_no(could_be(desk.web, desk.store.seen()))


def tell_rows(desk, values):
    return figures(len(desk.store.rows()))


def tell_counts(desk, values):
    counts = desk.store.counts()
    words = [view_word(view) + ":" + figures(counts[view]) for view in sorted(counts)]
    return " ".join(words) if len(words) > 0 else NONE


DEEDS = {
    "add": add_row, "mend": mend_row, "strike": strike_row, "undo": undo_deed, "ask": ask_calm, "bounds": tell_bounds,
    "plain": ask_plain, "arrow": put_arrow, "noarrow": take_arrow, "tells": tell_tells, "could": tell_could,
    "rows": tell_rows, "counts": tell_counts,
}


class Desk:
    """A store of rows and a web, led by lines."""

    def __init__(self, sizes):
        self.store = Rows(sizes)
        self.web = Web(len(sizes), ())

    def tell(self, line):
        word, values = read_line(self, line)
        deed = DEEDS[word]
        return deed(self, values)


def told_or_error(desk, line):
    """What the desk tells to a line, or the name of the error that it raises."""
    try:
        return desk.tell(line)
    except BlankError as error:
        return "(" + error.__class__.__name__ + ")"


def desk_tale(sizes, lines):
    desk = Desk(sizes)
    if not isinstance(lines, (list, tuple)):
        raise NoLines()
    return [told_or_error(desk, line) for line in lines]
