"""Calm wholes, and the one that a told seen table is hidden from."""

from calmblanks.basics import BLANK, ONE, added, all_lots, divided, is_between, is_pattern, is_view, multiplied
from calmblanks.errors import NoColumn, NoPattern, NotCalm, NotClosed, NotFull, NoView
from calmblanks.tables import Whole, columns_seen, contents, contents_showing, family, hidden, lacking, patterns
from calmblanks.tables import seen_of


def with_column(pattern, column):
    """The pattern that shows this column more."""
    return tuple(sorted(pattern + (column,)))


def has_step(own, column, pattern):
    """Whether a family has a pattern without the column, and that with it, too."""
    return pattern in own and column not in pattern and with_column(pattern, column) in own


def with_worth(content, column, worth):
    return content[:column] + (worth,) + content[column + 1:]


def step_quotients(whole, column, pattern):
    """For each content its share with a pattern by that with the pattern that shows the column more."""
    shares = {key: fraction for key, fraction in whole.shares}
    more = with_column(pattern, column)
    return {content: divided(shares[(content, pattern)], shares[(content, more)]) for content in contents(whole.sizes)}


def uneven_pair(whole, column, pattern):
    """The least two contents that differ in the column alone and have unlike quotients, None if there are none."""
    along = step_quotients(whole, column, pattern)
    for content in contents(whole.sizes):
        for worth in range(content[column] + 1, whole.sizes[column]):
            other = with_worth(content, column, worth)
            if along[content] != along[other]:
                return (content, other)
    return None


def first_uncalm(whole):
    own = family(whole)
    for column in range(len(whole.sizes)):
        for pattern in own:
            pair = uneven_pair(whole, column, pattern) if has_step(own, column, pattern) else None
            if pair is not None:
                return (column, pattern) + pair
    return None


def is_calm(whole):
    return isinstance(whole, Whole) and first_uncalm(whole) is None


def odds(whole, column, pattern):
    if not is_between(0, len(whole.sizes) - 1, column):
        raise NoColumn()
    if not is_pattern(whole.sizes, pattern) or not has_step(family(whole), column, pattern):
        raise NoPattern()
    uncalm = first_uncalm(whole)
    if uncalm is not None:
        raise NotCalm(uncalm[0])
    along = step_quotients(whole, column, pattern)
    return {with_worth(content, column, BLANK): along[content] for content in along if content[column] == 0}


def shows_more(one, other):
    """Whether a pattern shows all that another one does, and more."""
    return len(one) > len(other) and all([column in one for column in other])


def patterns_lacking(columns, own):
    """The ascending list of the patterns that show more than one of a family and are not in it."""
    return [pattern for pattern in all_lots(columns)
            if pattern not in own and any([shows_more(pattern, other) for other in own])]


def judge_told(seen):
    views_lacking = lacking(seen)
    if len(views_lacking) > 0:
        raise NotFull(views_lacking[0])
    lack = patterns_lacking(len(seen.sizes), family(seen))
    if len(lack) > 0:
        raise NotClosed(lack[0])


def even_tilts(sizes):
    """The tilts that leave calm what is tilted by them."""
    return tuple([(ONE,) * size for size in sizes])


def product_at(tilts, found, content, pattern, shown):
    """The product of the tilts of a content's worths that are blank and of the quotients of its views by the patterns
    shown."""
    own = [tilts[column][worth] for column, worth in enumerate(content) if column not in pattern]
    return multiplied(own + [found[seen_of(content, other)] for other in shown])


def many_blanks(view):
    return view.count(BLANK)


def worked_quotient(sizes, tilts, found, view, fraction):
    """The quotient of a view with this share, those by all patterns that show more being found."""
    pattern = columns_seen(view)
    # The family is closed, so that all patterns that show more are in it.
    more = [other for other in patterns(sizes) if shows_more(other, pattern)]
    shown = contents_showing(sizes, view)
    return divided(fraction, added([product_at(tilts, found, content, pattern, more) for content in shown]))


def quotients_by_view(seen, tilts):
    """The dict from the views of a told seen table to their quotients, of the whole that is tilted so."""
    found = {}
    # Views that show more come first, as their quotients are needed for those that show less.
    shares = {key: fraction for key, fraction in seen.shares}
    for key in sorted(shares, key=many_blanks):
        found[key] = worked_quotient(seen.sizes, tilts, found, key, shares[key])
    return found


def whole_of(sizes, own, tilts, found):
    """The whole of a closed family that is tilted so and has these quotients."""
    shares = []
    for content in contents(sizes):
        for pattern in own:
            shown = [other for other in own if other == pattern or shows_more(other, pattern)]
            shares.append(((content, pattern), product_at(tilts, found, content, pattern, shown)))
    return Whole(sizes, tuple(shares))


def whole_tilted(seen, tilts):
    """The whole that is tilted so and hidden so, of a told seen table."""
    return whole_of(seen.sizes, family(seen), tilts, quotients_by_view(seen, tilts))


def quotients(seen):
    judge_told(seen)
    found = quotients_by_view(seen, even_tilts(seen.sizes))
    return tuple([(key, found[key]) for key in sorted(found)])


def quotient(seen, view):
    judge_told(seen)
    if not is_view(seen.sizes, view) or columns_seen(view) not in family(seen):
        raise NoView()
    return quotients_by_view(seen, even_tilts(seen.sizes))[view]


def calm_whole(seen):
    judge_told(seen)
    return whole_tilted(seen, even_tilts(seen.sizes))


def calm_part(whole):
    return calm_whole(hidden(whole))
