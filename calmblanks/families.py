"""Families of patterns, and twins where one is not closed."""

from calmblanks.basics import MOST_COLUMNS, ONE, all_lots, is_between, is_lot, is_sizes, is_tuple_of, picked, times
from calmblanks.calm import is_calm, patterns_lacking, shows_more
from calmblanks.errors import BadFamily, BadSizes, NoNumber
from calmblanks.tables import Whole, contents, has_family, hidden

MOST_COLUMNS_OF_ALL = 3
MORE = (3, 2)
LESS = (1, 2)


def is_family(columns, thing):
    """Whether a thing is an ascending tuple of patterns, not empty."""
    if not isinstance(thing, tuple) or len(thing) == 0 or not all([is_lot(columns, pattern) for pattern in thing]):
        return False
    return all([one < other for one, other in zip(thing, thing[1:])])


def judge_family(columns, family):
    if not is_family(columns, family):
        raise BadFamily()


def judge_columns(most, columns):
    if not is_between(1, most, columns):
        raise NoNumber()


def is_closed(columns, family):
    judge_columns(MOST_COLUMNS, columns)
    judge_family(columns, family)
    return len(patterns_lacking(columns, family)) == 0


def closed_around(columns, family):
    lack = lacking_patterns(columns, family)
    return tuple(sorted(lack + list(family)))


def lacking_patterns(columns, family):
    judge_columns(MOST_COLUMNS, columns)
    judge_family(columns, family)
    return patterns_lacking(columns, family)


def closed_families(columns):
    judge_columns(MOST_COLUMNS_OF_ALL, columns)
    all_patterns = all_lots(columns)
    families = [picked(all_patterns, places) for places in all_lots(len(all_patterns)) if len(places) > 0]
    return [family for family in families if len(patterns_lacking(columns, family)) == 0]


def even_whole(sizes, family):
    keys = [(content, pattern) for content in contents(sizes) for pattern in family]
    return Whole(sizes, tuple([(key, (1, len(keys))) for key in keys]))


def swing(content, lack):
    """The factor of a content's shares: more, less or neither, evenly along each column of a pattern."""
    worths = picked(content, lack)
    if any([worth > 1 for worth in worths]):
        return ONE
    return LESS if sum(worths) % 2 == 1 else MORE


def swung_whole(whole, lack):
    """An even whole with other shares for the patterns that show less than one that its family lacks."""
    # Each of these leaves a column of the lacking pattern blank, over which as much is added as taken. Along such a
    # column they are joined to one another alone, so that both shares have the same factor; and no factor hangs on the
    # worth of another column.
    shares = []
    for key, fraction in whole.shares:
        shares.append((key, times(fraction, swing(key[0], lack)) if shows_more(lack, key[1]) else fraction))
    return Whole(whole.sizes, tuple(shares))


def calm_twins(sizes, family):
    if not is_sizes(sizes):
        raise BadSizes()
    judge_family(len(sizes), family)
    lack = patterns_lacking(len(sizes), family)
    if len(lack) == 0:
        return None
    even = even_whole(sizes, family)
    return (even, swung_whole(even, lack[0]))


def is_such_a_whole(sizes, family, thing):
    return isinstance(thing, Whole) and thing.sizes == sizes and has_family(thing, family) and is_calm(thing)


def are_calm_twins(sizes, family, thing):
    if not is_sizes(sizes):
        raise BadSizes()
    judge_family(len(sizes), family)
    if not is_tuple_of(2, thing) or not all([is_such_a_whole(sizes, family, whole) for whole in thing]):
        return False
    return thing[0] != thing[1] and hidden(thing[0]) == hidden(thing[1])
