"""What the other files share: judging what is passed, lists of tuples, and sums of fractions."""

from math import gcd, lcm

MOST_COLUMNS = 4
LEAST_SIZE = 2
MOST_SIZE = 4
MOST_CONTENTS = 64
BLANK = -1
ONE = (1, 1)


def is_integer(thing):
    # True and False are of the kind int, too.
    return isinstance(thing, int) and not isinstance(thing, bool)


def is_between(least, most, thing):
    return is_integer(thing) and least <= thing <= most


def is_tuple_of(many, thing):
    return isinstance(thing, tuple) and len(thing) == many


def is_just(numbers, thing):
    """Whether a thing is a tuple of just these integers."""
    # Equal is not enough: a flag is equal to a number.
    return isinstance(thing, tuple) and all([is_integer(number) for number in thing]) and thing == numbers


def is_lot(many, thing):
    """Whether a thing is an ascending tuple of numbers below this many."""
    if not isinstance(thing, tuple) or not all([is_between(0, many - 1, number) for number in thing]):
        return False
    return all([one < other for one, other in zip(thing, thing[1:])])


def is_fraction(thing):
    if not is_tuple_of(2, thing) or not all([is_integer(number) for number in thing]):
        return False
    return thing[1] > 0 and gcd(thing[0], thing[1]) == 1


def is_share(thing):
    return is_fraction(thing) and thing[0] > 0


def is_part(thing):
    return is_fraction(thing) and 0 <= thing[0] <= thing[1]


def is_sizes(thing):
    if not isinstance(thing, tuple) or not 1 <= len(thing) <= MOST_COLUMNS:
        return False
    if not all([is_between(LEAST_SIZE, MOST_SIZE, size) for size in thing]):
        return False
    many = 1
    for size in thing:
        many = many * size
    return many <= MOST_CONTENTS


def is_worths(sizes, least, thing):
    """Whether a thing has for each of the sizes an integer from the least on, below the size."""
    if not is_tuple_of(len(sizes), thing):
        return False
    return all([is_between(least, size - 1, worth) for size, worth in zip(sizes, thing)])


def is_content(sizes, thing):
    return is_worths(sizes, 0, thing)


def is_view(sizes, thing):
    return is_worths(sizes, BLANK, thing)


def is_pattern(sizes, thing):
    return is_lot(len(sizes), thing)


def is_content_and_pattern(sizes, thing):
    return is_tuple_of(2, thing) and is_content(sizes, thing[0]) and is_pattern(sizes, thing[1])


def all_tuples(choices):
    """The list of all tuples with one of the choices in each place; ascending if the choices are."""
    found = [()]
    for choice in choices:
        found = [ahead + (item,) for ahead in found for item in choice]
    return found


def all_lots(many):
    """The ascending list of all lots of numbers below this many."""
    found = [()]
    for number in range(many):
        found = found + [lot + (number,) for lot in found]
    return sorted(found)


def fewest_first(tuples):
    return sorted(tuples, key=lambda own: (len(own), own))


def picked(worths, places):
    return tuple([worths[place] for place in places])


def lowest(top, bottom):
    common = gcd(top, bottom)
    return (top // common, bottom // common)


def times(one, other):
    return lowest(one[0] * other[0], one[1] * other[1])


def divided(one, other):
    """The quotient of a fraction by one above 0."""
    return lowest(one[0] * other[1], one[1] * other[0])


def multiplied(fractions):
    """The product, reduced once."""
    top = 1
    bottom = 1
    for fraction in fractions:
        top = top * fraction[0]
        bottom = bottom * fraction[1]
    return lowest(top, bottom)


def joined(one, other):
    """The sum of two, perhaps not in lowest terms."""
    bottom = lcm(one[1], other[1])
    return (one[0] * (bottom // one[1]) + other[0] * (bottom // other[1]), bottom)


def added(fractions):
    """The sum, in lowest terms."""
    # Those with bottoms of like size go together first, two by two, so that large numbers meet late, and are reduced
    # once and not at each step.
    parts = sorted(fractions, key=lambda fraction: fraction[1])
    while len(parts) > 1:
        left = parts[len(parts) // 2 * 2:]
        parts = [joined(parts[place], parts[place + 1]) for place in range(0, len(parts) - 1, 2)] + left
    return lowest(parts[0][0], parts[0][1]) if len(parts) > 0 else (0, 1)


def gathered(pairs):
    """Of pairs (key, fraction) the ascending tuple of the keys, each with its sum, those of the sum 0 left out."""
    found = {}
    for key, fraction in pairs:
        found.setdefault(key, []).append(fraction)
    sums = [(key, added(found[key])) for key in sorted(found)]
    return tuple([(key, fraction) for key, fraction in sums if fraction[0] > 0])


def parted(fractions):
    """The tuple of the fractions by their sum, which is above 0."""
    whole = added(fractions)
    return tuple([divided(fraction, whole) for fraction in fractions])
