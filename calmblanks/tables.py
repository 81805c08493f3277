"""Seen tables and wholes."""

from calmblanks.basics import BLANK, added, all_lots, all_tuples, gathered, is_content, is_content_and_pattern
from calmblanks.basics import is_part, is_pattern, is_share, is_sizes, is_tuple_of, is_view, lowest, times
from calmblanks.errors import BadRow, BadSeen, BadSizes, BadWhole, NoContent, NoFraction, NoPattern, OtherSizes


def wrong_in_shares(sizes, shares, is_key):
    """Where what is passed is wrong for seen tables and wholes alike, None if nowhere."""
    if not is_sizes(sizes):
        return "sizes"
    if not isinstance(shares, tuple):
        return "shares"
    for at, item in enumerate(shares):
        if not is_tuple_of(2, item) or not is_key(sizes, item[0]) or not is_share(item[1]):
            return at
        if at > 0 and not shares[at - 1][0] < item[0]:
            return at
    if added([fraction for _, fraction in shares]) != (1, 1):
        return "sum"
    return None


def torn_pattern(sizes, shares):
    """The least pattern with which some contents have a share and others have none, or None."""
    many = {}
    for key, _ in shares:
        many[key[1]] = many.get(key[1], 0) + 1
    for pattern in sorted(many):
        if many[pattern] < len(contents(sizes)):
            return pattern
    return None


class Seen:
    """A seen table: the views that come, with their shares."""

    def __init__(self, sizes, shares):
        wrong = wrong_in_shares(sizes, shares, is_view)
        if wrong is not None:
            raise BadSeen(wrong)
        self.sizes = sizes
        self.shares = shares

    def __eq__(self, other):
        return isinstance(other, Seen) and self.sizes == other.sizes and self.shares == other.shares


class Whole:
    """A whole: the pairs of a content and a pattern that come, with their shares."""

    def __init__(self, sizes, shares):
        wrong = wrong_in_shares(sizes, shares, is_content_and_pattern)
        if wrong is not None:
            raise BadWhole(wrong)
        torn = torn_pattern(sizes, shares)
        if torn is not None:
            raise BadWhole(torn)
        self.sizes = sizes
        self.shares = shares

    def __eq__(self, other):
        return isinstance(other, Whole) and self.sizes == other.sizes and self.shares == other.shares


def contents(sizes):
    if not is_sizes(sizes):
        raise BadSizes()
    return all_tuples([list(range(size)) for size in sizes])


def patterns(sizes):
    if not is_sizes(sizes):
        raise BadSizes()
    return all_lots(len(sizes))


def views(sizes, pattern):
    if not is_sizes(sizes):
        raise BadSizes()
    if not is_pattern(sizes, pattern):
        raise NoPattern()
    return all_tuples([list(range(size)) if column in pattern else [BLANK] for column, size in enumerate(sizes)])


def view(sizes, content, pattern):
    if not is_sizes(sizes):
        raise BadSizes()
    if not is_content(sizes, content):
        raise NoContent()
    if not is_pattern(sizes, pattern):
        raise NoPattern()
    return seen_of(content, pattern)


def seen_of(content, pattern):
    return tuple([worth if column in pattern else BLANK for column, worth in enumerate(content)])


def columns_seen(key):
    """The pattern by which a view is one."""
    return tuple([column for column, worth in enumerate(key) if worth != BLANK])


def contents_showing(sizes, key):
    """The ascending list of the contents that show a view."""
    return all_tuples([list(range(size)) if worth == BLANK else [worth] for worth, size in zip(key, sizes)])


def pattern_of(table, key):
    """The pattern of a key of the table's shares."""
    return key[1] if isinstance(table, Whole) else columns_seen(key)


def family(table):
    return sorted({pattern_of(table, key) for key, _ in table.shares})


def has_family(table, own):
    """Whether the family of a table are just the patterns of a tuple."""
    return family(table) == list(own)


def share(table, key):
    # A key is judged first, as one with a flag in it is equal to one with a number.
    if isinstance(table, Whole):
        can_come = is_content_and_pattern(table.sizes, key)
    else:
        can_come = is_view(table.sizes, key)
    if can_come:
        for own, fraction in table.shares:
            if own == key:
                return fraction
    return (0, 1)


def hidden(whole):
    return Seen(whole.sizes, gathered([(seen_of(key[0], key[1]), fraction) for key, fraction in whole.shares]))


def contents_alone(whole):
    return gathered([(key[0], fraction) for key, fraction in whole.shares])


def patterns_alone(table):
    return gathered([(pattern_of(table, key), fraction) for key, fraction in table.shares])


def is_full(seen):
    return isinstance(seen, Seen) and len(lacking(seen)) == 0


def lacking(seen):
    have = {key: True for key, _ in seen.shares}
    return sorted([item for pattern in family(seen) for item in views(seen.sizes, pattern) if item not in have])


def seen_of_rows(sizes, rows):
    if not is_sizes(sizes):
        raise BadSizes()
    if not isinstance(rows, (list, tuple)) or len(rows) == 0:
        raise BadRow(-1)
    counts = {}
    for index, row in enumerate(rows):
        if not is_view(sizes, row):
            raise BadRow(index)
        counts[row] = counts.get(row, 0) + 1
    return Seen(sizes, tuple([(row, lowest(counts[row], len(rows))) for row in sorted(counts)]))


def mixed(one, other, part):
    if not isinstance(one, Whole) or not isinstance(other, Whole) or one.sizes != other.sizes:
        raise OtherSizes()
    if not is_part(part):
        raise NoFraction()
    rest = (part[1] - part[0], part[1])
    pairs = [(key, times(fraction, part)) for key, fraction in one.shares]
    pairs = pairs + [(key, times(fraction, rest)) for key, fraction in other.shares]
    return Whole(one.sizes, gathered(pairs))
