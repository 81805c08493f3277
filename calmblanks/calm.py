"""Calm wholes, and the one that a told seen table is hidden from."""

from calmblanks.basics import BLANK, added, divided, is_between, is_pattern, is_view, lowest
from calmblanks.errors import NoColumn, NoPattern, NotCalm, NotClosed, NotFull, NoView
from calmblanks.tables import Whole, contents, family, hidden, lacking, pattern_of, patterns, seen_of, views


def with_column(pattern, column):
    """The pattern that shows this column more."""
    return tuple(sorted(pattern + (column,)))


def has_step(own, column, pattern):
    """Whether a family has a pattern without the column, and that with it, too."""
    return pattern in own and column not in pattern and with_column(pattern, column) in own


def with_worth(content, column, worth):
    return content[:column] + (worth,) + content[column + 1:]


def step_quotients(whole, column, pattern):
    """For each content its share with a pattern by that with the pattern that shows the column more."""
    shares = {key: fraction for key, fraction in whole.shares}
    more = with_column(pattern, column)
    return {content: divided(shares[(content, pattern)], shares[(content, more)]) for content in contents(whole.sizes)}


def uneven_pair(whole, column, pattern):
    """The least two contents that differ in the column alone and have unlike quotients, None if there are none."""
    along = step_quotients(whole, column, pattern)
    for content in contents(whole.sizes):
        for worth in range(content[column] + 1, whole.sizes[column]):
            other = with_worth(content, column, worth)
            if along[content] != along[other]:
                return (content, other)
    return None


def first_uncalm(whole):
    own = family(whole)
    for column in range(len(whole.sizes)):
        for pattern in own:
            pair = uneven_pair(whole, column, pattern) if has_step(own, column, pattern) else None
            if pair is not None:
                return (column, pattern) + pair
    return None


def is_calm(whole):
    return isinstance(whole, Whole) and first_uncalm(whole) is None


def odds(whole, column, pattern):
    if not is_between(0, len(whole.sizes) - 1, column):
        raise NoColumn()
    if not is_pattern(whole.sizes, pattern) or not has_step(family(whole), column, pattern):
        raise NoPattern()
    uncalm = first_uncalm(whole)
    if uncalm is not None:
        raise NotCalm(uncalm[0])
    along = step_quotients(whole, column, pattern)
    return {with_worth(content, column, BLANK): along[content] for content in along if content[column] == 0}


def shows_more(one, other):
    """Whether a pattern shows all that another one does, and more."""
    return len(one) > len(other) and all([column in one for column in other])


def judge_told(seen):
    lack = lacking(seen)
    if len(lack) > 0:
        raise NotFull(lack[0])
    own = family(seen)
    for pattern in patterns(seen.sizes):
        if pattern not in own and any([shows_more(pattern, other) for other in own]):
            raise NotClosed(pattern)


def multiplied_views(found, content, shown):
    """The product of the quotients of a content's views by the patterns shown."""
    top = 1
    bottom = 1
    for pattern in shown:
        fraction = found[seen_of(content, pattern)]
        top = top * fraction[0]
        bottom = bottom * fraction[1]
    return lowest(top, bottom)


def sums_by_view(seen, found, pattern):
    """For each view by a pattern the sum, over its contents, of the products by the patterns that show more."""
    more = [other for other in family(seen) if shows_more(other, pattern)]
    products = {}
    for content in contents(seen.sizes):
        products.setdefault(seen_of(content, pattern), []).append(multiplied_views(found, content, more))
    return {key: added(products[key]) for key in products}


def quotients_by_view(seen):
    """The dict from the views of a told seen table to their quotients."""
    shares = {key: fraction for key, fraction in seen.shares}
    found = {}
    # Patterns that show more come first, as their quotients are needed for those that show less.
    for pattern in sorted(family(seen), key=len, reverse=True):
        sums = sums_by_view(seen, found, pattern)
        for key in views(seen.sizes, pattern):
            found[key] = divided(shares[key], sums[key])
    return found


def quotients(seen):
    judge_told(seen)
    found = quotients_by_view(seen)
    return tuple([(key, found[key]) for key in sorted(found)])


def quotient(seen, view):
    judge_told(seen)
    if not is_view(seen.sizes, view) or pattern_of(seen, view) not in family(seen):
        raise NoView()
    return quotients_by_view(seen)[view]


def calm_whole(seen):
    judge_told(seen)
    found = quotients_by_view(seen)
    own = family(seen)
    shares = []
    for content in contents(seen.sizes):
        for pattern in own:
            shown = [other for other in own if other == pattern or shows_more(other, pattern)]
            shares.append(((content, pattern), multiplied_views(found, content, shown)))
    return Whole(seen.sizes, tuple(shares))


def calm_part(whole):
    return calm_whole(hidden(whole))
