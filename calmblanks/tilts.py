"""Tilted wholes, and the tilts by which they are tilted."""

from calmblanks.basics import ONE, divided, is_share, is_tuple_of
from calmblanks.calm import has_step, judge_told, step_quotients, whole_tilted, with_worth
from calmblanks.errors import BadTilts, NotAlike, NotTilted, OtherSizes
from calmblanks.tables import Whole, family, hidden

NO_TUPLE = -1


def is_line_of_tilts(size, thing):
    """Whether a thing has a tilt for each worth of a column, the first one 1."""
    return is_tuple_of(size, thing) and all([is_share(tilt) for tilt in thing]) and thing[0] == ONE


def judge_tilts(sizes, tilts):
    if not is_tuple_of(len(sizes), tilts):
        raise BadTilts(NO_TUPLE)
    for column, size in enumerate(sizes):
        if not is_line_of_tilts(size, tilts[column]):
            raise BadTilts(column)


def tilted_whole(seen, tilts):
    judge_told(seen)
    judge_tilts(seen.sizes, tilts)
    return whole_tilted(seen, tilts)


def lines_along(whole, column):
    """All unlike tuples of the quotients for a column's worths by that for its first one."""
    own = family(whole)
    found = []
    for pattern in [pattern for pattern in own if has_step(own, column, pattern)]:
        along = step_quotients(whole, column, pattern)
        for content in [content for content in along if content[column] == 0]:
            others = [with_worth(content, column, worth) for worth in range(whole.sizes[column])]
            line = tuple([divided(along[other], along[content]) for other in others])
            if line not in found:
                found.append(line)
    return found


def tilts_of(whole):
    found = []
    for column, size in enumerate(whole.sizes):
        lines = lines_along(whole, column)
        if len(lines) > 1:
            return None
        found.append(lines[0] if len(lines) == 1 else (ONE,) * size)
    return tuple(found)


def judged_tilts_of(whole):
    tilts = tilts_of(whole)
    if tilts is None:
        raise NotTilted()
    return tilts


def retilted(whole, tilts):
    judged_tilts_of(whole)
    return tilted_whole(hidden(whole), tilts)


def tilts_between(whole, other):
    if not isinstance(other, Whole) or whole.sizes != other.sizes:
        raise OtherSizes()
    tilts = judged_tilts_of(whole)
    others = judged_tilts_of(other)
    if hidden(whole) != hidden(other):
        raise NotAlike()
    return tuple([quotients_of_lines(line, own) for line, own in zip(others, tilts)])


def quotients_of_lines(line, own):
    return tuple([divided(one, by) for one, by in zip(line, own)])
