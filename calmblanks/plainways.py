"""Plain ways to answer, and the webs for which they are right."""

from calmblanks.basics import all_lots, all_tuples, divided, fewest_first, gathered, is_lot, picked
from calmblanks.errors import NoGroup, NoShares, NoWay, NoWish
from calmblanks.roads import are_parted
from calmblanks.tables import Whole, hidden, pattern_of
from calmblanks.telling import judge_sizes
from calmblanks.webs import is_fitting, many_worths, product, worths_of_parents

WHOLE_ROWS = "whole rows"
SHOWN_ROWS = "shown rows"
# Bottom of all shares that are drawn; a prime number, so that they are in lowest terms and seldom agree by chance.
DRAWN_BOTTOM = 1009
# From a number below the last of these the next one is had by the first two; all come before one comes again.
DRAW_TIMES = 7141
DRAW_MORE = 54773
DRAW_NUMBERS = 259200


def judge_way(way):
    if not isinstance(way, str) or way not in (WHOLE_ROWS, SHOWN_ROWS):
        raise NoWay()


def judge_wish(columns, wish):
    if not is_lot(columns, wish) or len(wish) == 0:
        raise NoWish()


def judge_group(columns, wish, group):
    if not is_lot(columns, group) or any([column in wish for column in group]):
        raise NoGroup()


def columns_wanted(columns, way, wish, group):
    """The columns that must be seen in the rows that a way takes."""
    return tuple(range(columns)) if way == WHOLE_ROWS else group + wish


def worths_in(sizes, columns):
    """The ascending list of all tuples of worths of these columns."""
    return all_tuples([list(range(sizes[column])) for column in columns])


def sums_of(rows, key_of):
    """Of pairs (worths, fraction) the dict from the keys of the worths to the sums of their fractions."""
    return {key: fraction for key, fraction in gathered([(key_of(worths), fraction) for worths, fraction in rows])}


def shares_by_group(sizes, rows, wish, group):
    """Of pairs (worths of the columns, fraction) the shares of the wish's worths, the group's being told."""
    totals = sums_of(rows, lambda worths: picked(worths, group))
    sums = sums_of(rows, lambda worths: (picked(worths, group), picked(worths, wish)))
    found = {}
    for told in worths_in(sizes, group):
        if told not in totals:
            raise NoShares(told)
        for wished in worths_in(sizes, wish):
            found[(told, wished)] = divided(sums.get((told, wished), (0, 1)), totals[told])
    return found


def taken_rows(seen, wanted):
    """The shares of the views that show all columns wanted."""
    return [(key, fraction) for key, fraction in seen.shares
            if all([column in pattern_of(seen, key) for column in wanted])]


def plain(seen, way, wish, group):
    columns = len(seen.sizes)
    judge_way(way)
    judge_wish(columns, wish)
    judge_group(columns, wish, group)
    rows = taken_rows(seen, columns_wanted(columns, way, wish, group))
    return shares_by_group(seen.sizes, rows, wish, group)


def true_shares(whole, wish, group):
    columns = len(whole.sizes)
    judge_wish(columns, wish)
    judge_group(columns, wish, group)
    rows = [(key[0], fraction) for key, fraction in whole.shares]
    return shares_by_group(whole.sizes, rows, wish, group)


def is_parted_from_blanks(web, way, wish, group):
    blanks = [web.columns + column for column in columns_wanted(web.columns, way, wish, group)]
    return are_parted(web, wish, tuple(sorted(blanks)), group)


def judge_plain(web, way, wish, group):
    judge_way(way)
    judge_wish(web.columns, wish)
    judge_group(web.columns, wish, group)


def is_right(web, way, wish, group):
    judge_plain(web, way, wish, group)
    return is_parted_from_blanks(web, way, wish, group)


def is_wrong(way, wish, group, whole):
    """Whether what a way tells of the hidden table are not the true shares."""
    return plain(hidden(whole), way, wish, group) != true_shares(whole, wish, group)


def drawn_shares(many, start):
    """Shares above 0 with the sum 1, uneven without a plain rule, and where to go on."""
    tops = []
    while len(tops) < many - 1:
        start = (start * DRAW_TIMES + DRAW_MORE) % DRAW_NUMBERS
        tops.append(start * (DRAWN_BOTTOM // many) // DRAW_NUMBERS + 1)
    tops.append(DRAWN_BOTTOM - sum(tops))
    return (tuple([(top, DRAWN_BOTTOM) for top in tops]), start)


def drawn_whole(web, sizes, start):
    """A whole that fits a web, uneven without a plain rule, for each start another one."""
    tables = []
    for thing, many in enumerate(many_worths(sizes)):
        lines = []
        for worths in worths_of_parents(web, sizes, thing):
            shares, start = drawn_shares(many, start)
            lines.append((worths, shares))
        tables.append(tuple(lines))
    return product(web, sizes, tuple(tables))


def wrong_whole(web, sizes, way, wish, group):
    judge_sizes(web, sizes)
    judge_plain(web, way, wish, group)
    if is_parted_from_blanks(web, way, wish, group):
        return None
    # A way that is not right is wrong for almost all wholes that fit, so one of the first that are drawn will do.
    start = 0
    whole = drawn_whole(web, sizes, start)
    while not is_wrong(way, wish, group, whole):
        start = start + 1
        whole = drawn_whole(web, sizes, start)
    return whole


def is_wrong_whole(web, sizes, way, wish, group, thing):
    judge_sizes(web, sizes)
    judge_plain(web, way, wish, group)
    if not isinstance(thing, Whole) or thing.sizes != sizes or not is_fitting(web, thing):
        return False
    return is_wrong(way, wish, group, thing)


def right_groups(web, way, wish):
    judge_way(way)
    judge_wish(web.columns, wish)
    groups = [lot for lot in all_lots(web.columns) if not any([column in wish for column in lot])]
    right = [group for group in groups if is_parted_from_blanks(web, way, wish, group)]
    return fewest_first(right)
