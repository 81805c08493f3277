"""Webs of arrows among columns and blanks, the wholes that fit them, and ties."""

from calmblanks.basics import MOST_COLUMNS, added, all_tuples, gathered, is_between, is_just, is_share, is_sizes
from calmblanks.basics import is_tuple_of, multiplied, parted, picked
from calmblanks.errors import BadSizes, BadTables, BadWeb, NoThing, NotAll, OtherColumns
from calmblanks.tables import Whole, contents, family, patterns

BLANK_WORTHS = 2


def is_arrow(columns, thing):
    """Whether a thing is a pair of unlike things, not from a blank to a column."""
    if not is_tuple_of(2, thing) or not all([is_between(0, 2 * columns - 1, end) for end in thing]):
        return False
    return thing[0] != thing[1] and (thing[0] < columns or thing[1] >= columns)


def wrong_in_web(columns, arrows):
    """Where what is passed is wrong for a web, None if nowhere."""
    if not is_between(1, MOST_COLUMNS, columns):
        return "columns"
    if not isinstance(arrows, tuple):
        return "arrows"
    for at, arrow in enumerate(arrows):
        if not is_arrow(columns, arrow) or (at > 0 and not arrows[at - 1] < arrow):
            return at
    if any([thing in reached(arrows, thing) for thing in range(2 * columns)]):
        return "ring"
    return None


def reached(arrows, start):
    """The lot of the things to which arrows lead from the start, one or however many."""
    found = []
    waiting = [start]
    while waiting:
        thing = waiting.pop()
        for tail, head in arrows:
            if tail == thing and head not in found:
                found.append(head)
                waiting.append(head)
    return tuple(sorted(found))


class Web:
    """Arrows among the columns, 0 to n - 1, and their blanks, n to 2 n - 1."""

    def __init__(self, columns, arrows):
        wrong = wrong_in_web(columns, arrows)
        if wrong is not None:
            raise BadWeb(wrong)
        self.columns = columns
        self.arrows = arrows

    def __eq__(self, other):
        return isinstance(other, Web) and self.columns == other.columns and self.arrows == other.arrows


def judge_thing(web, thing):
    if not is_between(0, 2 * web.columns - 1, thing):
        raise NoThing()


def parents(web, thing):
    judge_thing(web, thing)
    return tuple([tail for tail, head in web.arrows if head == thing])


def children(web, thing):
    judge_thing(web, thing)
    return tuple([head for tail, head in web.arrows if tail == thing])


def behind(web, thing):
    judge_thing(web, thing)
    return reached(web.arrows, thing)


def order(web):
    found = []
    while len(found) < 2 * web.columns:
        found.append(next_thing(web, found))
    return tuple(found)


def next_thing(web, ahead):
    """The least thing that is not ahead, but all of whose parents are."""
    waiting = [thing for thing in range(2 * web.columns) if thing not in ahead]
    return min([thing for thing in waiting if all([parent in ahead for parent in parents(web, thing)])])


def many_worths(sizes):
    """For each thing how many worths it has."""
    return sizes + (BLANK_WORTHS,) * len(sizes)


def is_line(worths, many, thing):
    """Whether a thing is a pair of just these worths and so many shares with the sum 1."""
    if not is_tuple_of(2, thing) or not is_just(worths, thing[0]) or not is_tuple_of(many, thing[1]):
        return False
    return all([is_share(fraction) for fraction in thing[1]]) and added(thing[1]) == (1, 1)


def is_table(worths, many, thing):
    """Whether a thing has a line for each of the worths, in their order."""
    if not is_tuple_of(len(worths), thing):
        return False
    return all([is_line(own, many, line) for own, line in zip(worths, thing)])


def worths_of_parents(web, sizes, thing):
    """The ascending list of all tuples of worths of a thing's parents."""
    many = many_worths(sizes)
    return all_tuples([list(range(many[parent])) for parent in parents(web, thing)])


def wrong_table(web, sizes, tables):
    """The first thing for which the tables are not so, -1 for no tuple of as many, None if they are."""
    many = many_worths(sizes)
    if not is_tuple_of(len(many), tables):
        return -1
    for thing, table in enumerate(tables):
        if not is_table(worths_of_parents(web, sizes, thing), many[thing], table):
            return thing
    return None


def worths_of_all(content, pattern):
    """The worths of all things: those of the columns, then those of the blanks."""
    return content + tuple([0 if column in pattern else 1 for column in range(len(content))])


def product(web, sizes, tables):
    if not is_sizes(sizes):
        raise BadSizes()
    if len(sizes) != web.columns:
        raise OtherColumns()
    wrong = wrong_table(web, sizes, tables)
    if wrong is not None:
        raise BadTables(wrong)
    ahead = [parents(web, thing) for thing in range(len(tables))]
    lines = [{worths: shares for worths, shares in table} for table in tables]
    keys = [(content, pattern) for content in contents(sizes) for pattern in patterns(sizes)]
    return Whole(sizes, tuple([(key, share_by_tables(ahead, lines, worths_of_all(key[0], key[1]))) for key in keys]))


def share_by_tables(ahead, lines, worths):
    """The product of the shares of all things' worths, each given those of its parents."""
    return multiplied([lines[thing][picked(worths, ahead[thing])][worth] for thing, worth in enumerate(worths)])


def has_all(whole):
    return len(family(whole)) == len(patterns(whole.sizes))


def judge_whole(web, whole):
    if len(whole.sizes) != web.columns:
        raise OtherColumns()
    if not has_all(whole):
        raise NotAll()


def alone(rows, places):
    """Of pairs (worths, fraction) those of the worths in these places alone."""
    return gathered([(picked(worths, places), fraction) for worths, fraction in rows])


def told_by_ahead(rows):
    """Of ascending rows the shares of the last worth, those ahead being told: pairs (worths ahead, shares)."""
    found = {}
    for worths, fraction in rows:
        found.setdefault(worths[:-1], []).append(fraction)
    return tuple([(worths, parted(fractions)) for worths, fractions in found.items()])


def rows_up_to(line, whole):
    """For each thing of the line the rows of the worths of the things ahead of it and of its own."""
    rows = gathered([(picked(worths_of_all(key[0], key[1]), line), fraction) for key, fraction in whole.shares])
    found = [rows]
    # Cell by cell from the end, as fractions then stay as small as the whole lets them be.
    for place in range(len(line) - 1, 0, -1):
        rows = alone(rows, list(range(place)))
        found.append(rows)
    return found[::-1]


def places_of_parents(web, line, thing):
    return [line.index(parent) for parent in parents(web, thing)]


def broken(web, whole):
    judge_whole(web, whole)
    line = order(web)
    for place, rows in enumerate(rows_up_to(line, whole)):
        places = places_of_parents(web, line, line[place])
        table = {worths: shares for worths, shares in told_by_ahead(alone(rows, places + [place]))}
        if any([table[picked(worths, places)] != shares for worths, shares in told_by_ahead(rows)]):
            return line[place]
    return None


def tables_of(web, whole):
    judge_whole(web, whole)
    line = order(web)
    tables = {}
    for place, rows in enumerate(rows_up_to(line, whole)):
        places = places_of_parents(web, line, line[place])
        tables[line[place]] = told_by_ahead(alone(rows, places + [place]))
    return tuple([tables[thing] for thing in sorted(tables)])


def is_fitting(web, thing):
    if not isinstance(thing, Whole) or len(thing.sizes) != web.columns or not has_all(thing):
        return False
    return broken(web, thing) is None


def ties(web):
    columns = range(web.columns)
    own = [((column, web.columns + column),) for column in columns]
    pairs = [((column, web.columns + other), (web.columns + column, web.columns + other))
             for column in columns for other in columns if other != column]
    return sorted([tie for tie in own + pairs if all([arrow in web.arrows for arrow in tie])])


def tied(web):
    return tuple(sorted({tie[0][0] for tie in ties(web)}))


def fewest_out(web):
    # No two ties share an arrow, so one arrow must go for each, and the first of a tie stands ahead of its other one.
    # As ties ascend, so do the places of their first arrows.
    return tuple([web.arrows.index(tie[0]) for tie in ties(web)])


def untied(web):
    out = fewest_out(web)
    return Web(web.columns, tuple([arrow for place, arrow in enumerate(web.arrows) if place not in out]))
