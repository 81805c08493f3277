"""Webs that a seen table could be of."""

from calmblanks.basics import all_lots, fewest_first, is_between, picked
from calmblanks.calm import calm_whole
from calmblanks.errors import NoNumber, NotAll, TooMany
from calmblanks.telling import tells, told_whole
from calmblanks.webs import Web, has_all, is_arrow, is_fitting, wrong_in_web

MOST_COLUMNS_OF_ALL = 2


def could_be(web, seen):
    return told_whole(web, seen) is not None


def all_arrows(columns):
    """The ascending list of all arrows that a web can have."""
    things = range(2 * columns)
    return [(tail, head) for tail in things for head in things if is_arrow(columns, (tail, head))]


def all_webs(columns):
    if not is_between(1, MOST_COLUMNS_OF_ALL, columns):
        raise NoNumber()
    ends = all_arrows(columns)
    tuples = [picked(ends, places) for places in all_lots(len(ends))]
    right = [arrows for arrows in tuples if wrong_in_web(columns, arrows) is None]
    return [Web(columns, arrows) for arrows in fewest_first(right)]


def webs_that_could(seen):
    if len(seen.sizes) > MOST_COLUMNS_OF_ALL:
        raise TooMany(MOST_COLUMNS_OF_ALL)
    if not has_all(seen):
        raise NotAll()
    # This raises NotFull, and never NotClosed, as all patterns are there.
    calm = calm_whole(seen)
    return [web for web in all_webs(len(seen.sizes)) if tells(web) and is_fitting(web, calm)]


def is_part_of(one, other):
    """Whether the arrows of one web are some, but not all, of those of another."""
    return len(one.arrows) < len(other.arrows) and all([arrow in other.arrows for arrow in one.arrows])


def least_webs(seen):
    webs = webs_that_could(seen)
    return [web for web in webs if not any([is_part_of(other, web) for other in webs])]


def sure_arrows(seen):
    webs = least_webs(seen)
    if len(webs) == 0:
        return []
    return [arrow for arrow in webs[0].arrows if all([arrow in web.arrows for web in webs])]
