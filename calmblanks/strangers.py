"""Strangers' fillings of what is blank, and draws from a whole."""

from math import lcm

from calmblanks.basics import BLANK, ONE, added, is_between, is_content, is_fraction, is_share, is_sizes, lowest, parted
from calmblanks.basics import times
from calmblanks.calm import judge_told
from calmblanks.errors import BadFilling, BadSizes, BadThrow, NoNumber, NotFull
from calmblanks.tables import Whole, columns_seen, contents_showing, lacking, patterns, seen_of, seen_of_rows, views

NO_THROWS = -1
MOST_DRAWS = 1000


def is_filling(sizes, shown, thing):
    """Whether a thing is a dict from just the contents shown to shares with the sum 1."""
    if not isinstance(thing, dict) or len(thing) != len(shown):
        return False
    if not all([is_content(sizes, key) and key in shown for key in thing]):
        return False
    shares = list(thing.values())
    return all([is_share(fraction) for fraction in shares]) and added(shares) == ONE


def parts_given(sizes, filler, view):
    """The shares that a filler gives the contents that show a view, as they ascend."""
    if BLANK not in view:
        return (ONE,)
    shown = contents_showing(sizes, view)
    given = filler(view)
    if not is_filling(sizes, shown, given):
        raise BadFilling(view)
    return tuple([given[content] for content in shown])


def whole_parted(seen, parts):
    """The whole in which each view's share is parted among the contents that show it."""
    shares = []
    for key, fraction in seen.shares:
        for content, part in zip(contents_showing(seen.sizes, key), parts[key]):
            shares.append(((content, columns_seen(key)), times(fraction, part)))
    return Whole(seen.sizes, tuple(sorted(shares)))


def filled(seen, filler):
    lack = lacking(seen)
    if len(lack) > 0:
        raise NotFull(lack[0])
    return whole_parted(seen, {key: parts_given(seen.sizes, filler, key) for key, _ in seen.shares})


def proportional(seen):
    judge_told(seen)
    shares = {key: fraction for key, fraction in seen.shares}
    shown = {key: contents_showing(seen.sizes, key) for key in shares}
    return whole_parted(seen, {key: parted([shares[content] for content in shown[key]]) for key in shown})


def refuted(filler, sizes):
    if not is_sizes(sizes):
        raise BadSizes()
    rows = sorted([key for pattern in patterns(sizes) for key in views(sizes, pattern)])
    parts = {key: parts_given(sizes, filler, key) for key in rows}
    # By the calm whole the views in which the first column alone is blank are parted as the rows without a blank are:
    # evenly, if there is one row of each view, unevenly, if there are two of one.
    content = (0,) * len(sizes)
    first = parts[seen_of(content, tuple(range(1, len(sizes))))]
    is_even = all([part == first[0] for part in first])
    return seen_of_rows(sizes, rows + [content] if is_even else rows)


def is_throw(thing):
    """Whether a thing is a fraction from 0 on and below 1."""
    return is_fraction(thing) and 0 <= thing[0] < thing[1]


def running_sums(fractions):
    """The sums up to each of the fractions, and the bottom that all of them have."""
    bottom = 1
    for fraction in fractions:
        bottom = lcm(bottom, fraction[1])
    tops = []
    top = 0
    for fraction in fractions:
        top = top + fraction[0] * (bottom // fraction[1])
        tops.append(top)
    return (tops, bottom)


def place_met(tops, bottom, throw):
    """The first place at which the sum goes above a throw."""
    least = 0
    most = len(tops) - 1
    while least < most:
        middle = (least + most) // 2
        if tops[middle] * throw[1] > throw[0] * bottom:
            most = middle
        else:
            least = middle + 1
    return least


def drawn(whole, throws):
    if not isinstance(throws, (list, tuple)):
        raise BadThrow(NO_THROWS)
    for index, throw in enumerate(throws):
        if not is_throw(throw):
            raise BadThrow(index)
    tops, bottom = running_sums([fraction for _, fraction in whole.shares])
    keys = [whole.shares[place_met(tops, bottom, throw)][0] for throw in throws]
    return [seen_of(content, pattern) for content, pattern in keys]


def even_draws(whole, many):
    if not is_between(1, MOST_DRAWS, many):
        raise NoNumber()
    return drawn(whole, [lowest(number, many) for number in range(many)])
