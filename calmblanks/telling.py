"""Webs that tell the whole, and twins where a web does not."""

from calmblanks.basics import is_sizes, is_tuple_of, lowest
from calmblanks.calm import calm_whole
from calmblanks.errors import BadSizes, NotAll, NotTold, NoTie, OtherColumns
from calmblanks.tables import hidden
from calmblanks.webs import Web, has_all, is_arrow, is_fitting, many_worths, product, tied, ties, worths_of_parents

# Shares (seen, blank) of the worths 0 and 1 of a column whose first worths are uneven, so that as many rows are seen
# of each as with even worths and halves.
SEEN_SELDOM = ((2, 5), (3, 5))
SEEN_OFTEN = ((2, 3), (1, 3))
QUARTER = ((1, 4), (3, 4))
THREE_QUARTERS = ((3, 4), (1, 4))


def tells(web):
    return len(ties(web)) == 0


def judge_sizes(web, sizes):
    if not is_sizes(sizes):
        raise BadSizes()
    if len(sizes) != web.columns:
        raise OtherColumns()


def even_tables(web, sizes):
    """The list of the tables in which all worths of a thing have the same share."""
    many = many_worths(sizes)
    return [tuple([(worths, ((1, many[thing]),) * many[thing]) for worths in worths_of_parents(web, sizes, thing)])
            for thing in range(len(many))]


def with_lines(table, lines):
    """A table with other shares for some worths of the parents."""
    return tuple([(worths, lines.get(worths, shares)) for worths, shares in table])


def uneven_worths(size):
    """Shares of a column's worths that are even but for the first two."""
    return (lowest(5, 4 * size), lowest(3, 4 * size)) + ((1, size),) * (size - 2)


def uneven_tables(web, sizes, tie):
    """Tables for the web of a tie alone of which the same is seen as of even ones."""
    tables = even_tables(web, sizes)
    column, blank = tie[0]
    if len(tie) == 1:
        tables[column] = (((), uneven_worths(sizes[column])),)
        tables[blank] = with_lines(tables[blank], {(0,): SEEN_SELDOM, (1,): SEEN_OFTEN})
    else:
        # Where the column is blank, only the mean over its worths is seen of how often the other one is.
        tables[blank] = with_lines(tables[blank], {(0, 1): QUARTER, (1, 1): THREE_QUARTERS})
    return tables


def tie_twins(web, sizes, tie):
    alone = Web(web.columns, tie)
    even = product(alone, sizes, tuple(even_tables(alone, sizes)))
    return (even, product(alone, sizes, tuple(uneven_tables(alone, sizes, tie))))


def twins(web, sizes):
    judge_sizes(web, sizes)
    if tells(web):
        return None
    # What fits some of a web's arrows fits the web.
    return tie_twins(web, sizes, ties(web)[0])


def are_twins(web, sizes, thing):
    judge_sizes(web, sizes)
    if not is_tuple_of(2, thing) or not all([is_fitting(web, whole) and whole.sizes == sizes for whole in thing]):
        return False
    return thing[0] != thing[1] and hidden(thing[0]) == hidden(thing[1])


def is_tie(web, thing):
    # Arrows are judged first, as one with flags in it is equal to one with numbers.
    if not isinstance(thing, tuple) or not all([is_arrow(web.columns, arrow) for arrow in thing]):
        return False
    return thing in ties(web)


def twins_by(web, sizes, tie):
    judge_sizes(web, sizes)
    if not is_tie(web, tie):
        raise NoTie()
    return tie_twins(web, sizes, tie)


def told_whole(web, seen):
    if len(seen.sizes) != web.columns:
        raise OtherColumns()
    columns = tied(web)
    if len(columns) > 0:
        raise NotTold(columns[0])
    if not has_all(seen):
        raise NotAll()
    # This raises NotFull, and never NotClosed, as all patterns are there.
    calm = calm_whole(seen)
    return calm if is_fitting(web, calm) else None
