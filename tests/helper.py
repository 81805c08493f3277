"""What the tests share: odd things to pass, altered copies, and the check of an error."""

import itertools
import unittest
from fractions import Fraction

from calmblanks import errors
from calmblanks.desk import Desk
from calmblanks.store import Rows
from calmblanks.tables import Seen, Whole
from calmblanks.webs import Web

SIXTY = 10 ** 60 - 1
ROWS = ([(0, 0)] * 4 + [(0, 1)] * 2 + [(1, 0)] + [(1, 1)] * 3 + [(0, -1)] * 3 + [(1, -1)] * 2
        + [(-1, 0)] * 2 + [(-1, 1)] * 2 + [(-1, -1)])


def deep(make, depth):
    thing = make(None)
    for _ in range(depth - 1):
        thing = make(thing)
    return thing


def halves():
    return Seen((2,), (((0,), (1, 2)), ((1,), (1, 2))))


def bare_whole():
    """A whole of one column that is never blank."""
    return Whole((2,), ((((0,), (0,)), (1, 3)), (((1,), (0,)), (2, 3))))


def odd_things():
    """Things of many kinds; none is a tuple of integers, a view, a content, a lot or a pair of such."""
    return [
        None, True, False, "", "a", "0", "sizes", b"", b"\x00", b"\x02\x02", [], [0], [2, 2], [()], {}, {0: 1},
        {"sizes": (2,)}, range(2), bytearray(b"\x02"), memoryview(b"\x02"), slice(0, 2), Ellipsis, NotImplemented,
        int, tuple, len, deep, object(), iter(()), zip(), (n for n in ()), Seen, halves(), bare_whole(),
        Web(1, ()), Web(2, ((0, 3), (2, 3))), errors.BadSizes(), errors.BadSeen("sum"), Rows((2,)), Desk((2, 2)),
        deep(lambda thing: (thing,), 40), deep(lambda thing: [thing], 40), deep(lambda thing: {0: thing}, 40),
        (None,) * 20000, [None] * 20000, (True,), (False, False), (None, 0), ("0",), ("ab",), (b"\x00",), ([0],),
        ({},), (halves(),), (Web(1, ()),), ((True,), (1, 1)), ([0], (1, 1)),
    ]


def odd_numbers():
    return odd_things() + [-1, 10 ** 60, -SIXTY, (), (0,), (0, 1), ((0,),)]


def altered(thing):
    """Pairs of a path and a copy of a nested tuple with one thing in it of another kind."""
    found = []
    if isinstance(thing, tuple):
        found += [((), list(thing)), ((), {number: item for number, item in enumerate(thing)})]
        for place, item in enumerate(thing):
            for path, other in altered(item):
                found.append(((place,) + path, thing[:place] + (other,) + thing[place + 1:]))
    else:
        if thing in (0, 1):
            found.append(((), bool(thing)))
        found += [((), other) for other in (str(thing), bytes([abs(thing) % 256]), [thing], (thing,), {thing: thing})]
    return found + [((), other) for other in (None, halves(), deep(lambda inner: (inner,), 30))]


def frozen(thing):
    """What tells, of a thing and all within it, whether it has been changed."""
    if isinstance(thing, (list, tuple)):
        return (thing.__class__, tuple(frozen(item) for item in thing))
    if isinstance(thing, dict):
        return (dict, tuple((frozen(key), frozen(item)) for key, item in thing.items()))
    if isinstance(thing, (Seen, Whole, Web, Rows, Desk)):
        return (thing.__class__, frozen(list(vars(thing).items())))
    return (thing.__class__, thing)


def sizes_of_all():
    """All sizes that the document lets a table have."""
    found = []
    for many in range(1, 5):
        for sizes in itertools.product((2, 3, 4), repeat=many):
            if Fraction(64) >= Fraction(len(list(itertools.product(*[range(size) for size in sizes])))):
                found.append(sizes)
    return found


def as_pair(fraction):
    fraction = Fraction(fraction)
    return (fraction.numerator, fraction.denominator)


def keys_of(sizes, family):
    """The ascending pairs of all contents and the patterns of a family."""
    return sorted(itertools.product(itertools.product(*[range(size) for size in sizes]), family))


def lots_of(many):
    """The ascending lots of numbers below this many."""
    return sorted(lot for length in range(many + 1) for lot in itertools.combinations(range(many), length))


def weighed(sizes, family, weights):
    """The whole with such weights, taken again and again, for the contents and patterns as they ascend."""
    keys = keys_of(sizes, family)
    own = [Fraction(weights[place % len(weights)]) for place in range(len(keys))]
    return Whole(sizes, tuple((key, as_pair(weight / sum(own))) for key, weight in zip(keys, own)))


def numbers(start):
    """Numbers from 1 to 97 without a plain rule, the same for the same start."""
    while True:
        start = (start * 7141 + 54773) % 259200
        yield start % 97 + 1


def fitting(web, sizes, start):
    """A whole that fits a web: a product of drawn numbers, by Python's fractions."""
    dice = numbers(start)
    above = [tuple(tail for tail, head in sorted(web.arrows) if head == thing) for thing in range(2 * web.columns)]
    many = sizes + (2,) * len(sizes)
    drawn = {}
    for thing in range(len(many)):
        for worths in itertools.product(*[range(many[parent]) for parent in above[thing]]):
            line = [next(dice) for _ in range(many[thing])]
            for worth, weight in enumerate(line):
                drawn[thing, worths, worth] = Fraction(weight, sum(line))
    shares = []
    for key in keys_of(sizes, lots_of(len(sizes))):
        worths = cells(key)
        told = Fraction(1)
        for thing, worth in enumerate(worths):
            told *= drawn[thing, tuple(worths[parent] for parent in above[thing]), worth]
        shares.append((key, as_pair(told)))
    return Whole(sizes, tuple(shares))


def uneven(sizes, family, start):
    return weighed(sizes, family, list(itertools.islice(numbers(start), 1024)))


def shown(content, pattern):
    return tuple(worth if column in pattern else -1 for column, worth in enumerate(content))


def ones(sizes):
    return tuple(((1, 1),) * size for size in sizes)


def drawn_tilts(sizes, start):
    dice = numbers(start)
    return tuple(((1, 1),) + tuple(as_pair(Fraction(next(dice),
                                                    next(dice))) for _ in range(size - 1)) for size in sizes)


def tilted(sizes, family, tilts, start):
    """A whole that is tilted so: for each pattern of its family a drawn number for each view, and of each content and
    pattern the product of the numbers of its views by all patterns that show this or more, and of the tilts of those
    of its worths that are blank."""
    drawn = {}
    dice = numbers(start)
    for content, pattern in keys_of(sizes, family):
        if shown(content, pattern) not in drawn:
            drawn[shown(content, pattern)] = next(dice)
    weights = []
    for content, pattern in keys_of(sizes, family):
        weight = Fraction(1)
        for more in family:
            if set(pattern) <= set(more):
                weight *= drawn[shown(content, more)]
        for column, worth in enumerate(content):
            if column not in pattern:
                weight *= Fraction(*tilts[column][worth])
        weights.append(weight)
    return weighed(sizes, family, weights)


def woven(sizes, family, start):
    """A calm whole of drawn numbers."""
    return tilted(sizes, family, ones(sizes), start)


def all_families(columns):
    """All families of so many columns."""
    patterns = lots_of(columns)
    return [family for many in range(1, len(patterns) + 1) for family in itertools.combinations(patterns, many)]


def closed_families(columns):
    """All families of so many columns in which with each pattern all are that show more."""
    patterns = lots_of(columns)
    return [list(family) for family in all_families(columns)
            if all(more in family for pattern in family for more in patterns if set(pattern) < set(more))]


def cells(key):
    """The worths of all things of a content and pattern."""
    content, pattern = key
    return content + tuple(0 if column in pattern else 1 for column in range(len(content)))


def webs_of(columns):
    """All webs, worked out from all tuples of arrows: no thing may be behind itself."""
    ends = [(one, other) for one in range(2 * columns) for other in range(2 * columns)
            if one != other and not (one >= columns > other)]
    found = []
    for many in range(len(ends) + 1):
        found += [Web(columns, arrows) for arrows in itertools.combinations(ends, many)
                  if not has_ring(2 * columns, arrows)]
    return found


def picked_webs(columns, many):
    """Webs of so many columns with some, few or many arrows, without a plain rule, the same each time."""
    dice = numbers(columns)
    found = []
    for place in range(many):
        ranks = [next(dice) for _ in range(2 * columns)]
        arrows = tuple((tail, head) for tail in range(2 * columns) for head in range(2 * columns)
                       if (tail < columns <= head or (tail < columns) == (head < columns) and ranks[tail] < ranks[head])
                       and next(dice) % 5 <= place % 5)
        found.append(Web(columns, arrows))
    return found


def has_ring(things, arrows):
    """Whether no order of the things has each arrow lead on."""
    left = set(range(things))
    while True:
        free = {thing for thing in left if not any(head == thing and tail in left for tail, head in arrows)}
        if not free:
            return bool(left)
        left -= free


class Checks(unittest.TestCase):
    def raises(self, error, fields, function, *arguments):
        """The call raises just this error with just these fields, and changes nothing."""
        before = frozen(arguments)
        try:
            told = function(*arguments)
        except Exception as caught:
            self.assertIs(caught.__class__, error, f"{function.__name__}{short(arguments)}")
            self.assertIsInstance(caught, errors.BlankError)
            self.assertIsInstance(caught, ValueError)
            self.assertEqual(frozen(vars(caught)), frozen(fields), f"{function.__name__}{short(arguments)}")
        else:
            self.fail(f"{function.__name__}{short(arguments)} raised nothing, told {short(told)}")
        self.assertEqual(frozen(arguments), before)

    def tells(self, answer, function, *arguments):
        """Equal calls tell just this, kinds included; each list and dict is new, and nothing passed is changed."""
        before = frozen(arguments)
        told = function(*arguments)
        self.assertEqual(frozen(told), frozen(answer), f"{function.__name__}{short(arguments)}")
        if isinstance(told, list):
            told.append("more")
        if isinstance(told, dict):
            told["more"] = "more"
        again = function(*arguments)
        self.assertEqual(frozen(again), frozen(answer))
        self.assertEqual(frozen(arguments), before)


def short(thing):
    try:
        text = repr(thing)
    except ValueError:
        # Python does not write integers of more than 4300 figures.
        return "(numbers too long to write)"
    return text if len(text) < 300 else text[:300] + ".."
