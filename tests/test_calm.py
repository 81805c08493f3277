"""Wholes that are calm and such that are not, and their odds (3.1)."""

import itertools
import unittest
from fractions import Fraction

from calmblanks.calm import first_uncalm, is_calm, odds
from calmblanks.errors import NoColumn, NoPattern, NotCalm
from calmblanks.tables import Whole, mixed
from tests.helper import (SIXTY, Checks, altered, as_pair, bare_whole, closed_families, halves, keys_of, lots_of,
                          odd_numbers, odd_things, uneven, webs_of, weighed, woven)
from tests.test_contents import WRONG_PATTERNS

# Of (content, pattern) as they ascend: ((0,), ()), ((0,), (0,)), ((1,), ()), ((1,), (0,)).
CALM = weighed((2,), lots_of(1), [2, 3, 4, 6])
UNCALM = weighed((2,), lots_of(1), [2, 3, 4, 5])
SOME_SIZES = [(2,), (4,), (2, 3), (4, 2), (2, 3, 2), (2, 2, 2, 2), (4, 4, 4)]


def steps_of(family, columns):
    """All (column, pattern) of a family such that the pattern is without the column, and that with it is there, too."""
    return [(column, pattern) for column in range(columns) for pattern in family
            if column not in pattern and tuple(sorted(pattern + (column,))) in family]


def first_by_the_book(whole):
    """The least of all that are wrong, found by Python's fractions."""
    family = sorted({pattern for (_, pattern), _ in whole.shares})
    shares = {key: Fraction(*fraction) for key, fraction in whole.shares}
    wrong = []
    for column, pattern in steps_of(family, len(whole.sizes)):
        more = tuple(sorted(pattern + (column,)))
        for one, other in itertools.combinations(sorted({content for content, _ in shares}), 2):
            if [at for at in range(len(one)) if one[at] != other[at]] == [column]:
                if shares[one, pattern] / shares[one, more] != shares[other, pattern] / shares[other, more]:
                    wrong.append((column, pattern, one, other))
    return min(wrong, default=None)


def with_weight(whole, key, part):
    """A whole with one share greater or less, the sum kept 1 by all."""
    weights = [Fraction(*fraction) * (part if own == key else 1) for own, fraction in whole.shares]
    return Whole(whole.sizes, tuple((own, as_pair(weight / sum(weights)))
                                    for (own, _), weight in zip(whole.shares, weights)))


class Calm(Checks):
    def test_one_column(self):
        self.tells(True, is_calm, CALM)
        self.tells(None, first_uncalm, CALM)
        self.tells(False, is_calm, UNCALM)
        self.tells((0, (), (0,), (1,)), first_uncalm, UNCALM)

    def test_the_least_two_worths(self):
        self.tells((0, (), (0,), (2,)), first_uncalm, weighed((4,), lots_of(1), [1, 1, 1, 1, 1, 2, 1, 3]))
        self.tells((0, (), (0,), (3,)), first_uncalm, weighed((4,), lots_of(1), [1, 1, 1, 1, 1, 1, 1, 3]))
        self.tells((0, (), (0,), (1,)), first_uncalm, weighed((3,), lots_of(1), [1, 3, 1, 1, 1, 3]))

    def test_two_columns(self):
        # The column 1 is blank as often as its column 0 says, whatever its own worth is.
        whole = weighed((2, 2), [(0,), (0, 1)], [1, 3, 2, 6, 5, 2, 10, 4])
        self.tells(None, first_uncalm, whole)
        # Along column 0 there are no two such patterns, so only the worth of column 1 must not count.
        whole = weighed((2, 2), [(0,), (0, 1)], [1, 3, 2, 6, 5, 2, 10, 5])
        self.tells((1, (0,), (1, 0), (1, 1)), first_uncalm, whole)
        whole = weighed((2, 2), [(0, 1), (1,)], [1, 3, 2, 6, 5, 2, 10, 4])
        self.tells((0, (1,), (0, 0), (1, 0)), first_uncalm, whole)

    def test_the_column_comes_ahead_of_the_pattern_and_this_of_the_contents(self):
        calm = woven((2, 2), lots_of(2), 1)
        # A wrong share of all blank is along both columns, and along the first one that is told.
        self.tells((0, (), (0, 1), (1, 1)), first_uncalm, with_weight(calm, ((1, 1), ()), 2))
        self.tells((0, (), (0, 0), (1, 0)), first_uncalm, with_weight(calm, ((0, 0), ()), 2))
        self.tells((0, (), (0, 0), (1, 0)), first_uncalm, with_weight(calm, ((0, 0), (0,)), 2))
        self.tells((0, (1,), (0, 0), (1, 0)), first_uncalm, with_weight(calm, ((1, 0), (1,)), 2))
        self.tells((0, (1,), (0, 0), (1, 0)), first_uncalm, with_weight(calm, ((0, 0), (0, 1)), 2))

    def test_families_of_which_no_pattern_shows_just_one_column_more(self):
        for sizes, family in [((2,), [()]), ((3,), [(0,)]), ((2, 2), [(), (0, 1)]), ((2, 3), [(0,), (1,)]),
                              ((2, 2, 2), [(), (0, 1), (0, 2), (1, 2)]), ((2, 2, 2, 2), [(), (0, 1), (0, 1, 2, 3)])]:
            for start in (1, 2):
                self.tells(None, first_uncalm, uneven(sizes, family, start))
                self.tells(True, is_calm, uneven(sizes, family, start))

    def test_woven_wholes_are_calm(self):
        for place, sizes in enumerate(SOME_SIZES):
            everything = lots_of(len(sizes))
            for family in (everything, everything[1:], everything[:-1], everything[::2], everything[-2:]):
                self.tells(True, is_calm, woven(sizes, family, place + 1))
        for family in closed_families(3):
            self.tells(None, first_uncalm, woven((2, 3, 2), family, 5))

    def test_one_share_that_is_wrong(self):
        for sizes in [(2,), (4,), (2, 3), (2, 2, 2)]:
            for family in (lots_of(len(sizes)), lots_of(len(sizes))[1:], lots_of(len(sizes))[::-2][::-1]):
                calm = woven(sizes, family, 3)
                for key in keys_of(sizes, family):
                    whole = with_weight(calm, key, Fraction(3, 2))
                    answer = first_by_the_book(whole)
                    self.tells(answer, first_uncalm, whole)
                    self.tells(answer is None, is_calm, whole)

    def test_uneven_wholes(self):
        for place, sizes in enumerate(SOME_SIZES):
            for family in (lots_of(len(sizes)), lots_of(len(sizes))[1::2], lots_of(len(sizes))[-3:]):
                whole = uneven(sizes, family, place + 1)
                answer = first_by_the_book(whole)
                self.tells(answer, first_uncalm, whole)
                self.tells(answer is None, is_calm, whole)

    def test_sixty_digits(self):
        whole = weighed((2,), lots_of(1), [SIXTY, SIXTY - 2, 2 * SIXTY, 2 * SIXTY - 4])
        self.tells(True, is_calm, whole)
        whole = weighed((2,), lots_of(1), [SIXTY, SIXTY - 2, 2 * SIXTY, 2 * SIXTY - 3])
        self.tells((0, (), (0,), (1,)), first_uncalm, whole)

    def test_numbers_of_any_size(self):
        whole = CALM
        for _ in range(90):
            whole = mixed(whole, weighed((2,), lots_of(1), [4, 6, 2, 3]), (SIXTY - 2, SIXTY))
        self.assertGreater(whole.shares[0][1][1].bit_length(), 16000)
        self.tells(True, is_calm, whole)
        whole = mixed(whole, UNCALM, (SIXTY - 1, SIXTY))
        self.tells((0, (), (0,), (1,)), first_uncalm, whole)

    def test_other_things_are_not_calm_wholes(self):
        for thing in odd_numbers() + [halves(), CALM.shares, (CALM.sizes, CALM.shares), vars(CALM), webs_of(1)[0]]:
            self.tells(isinstance(thing, Whole), is_calm, thing)


class Odds(Checks):
    def test_one_column(self):
        self.tells({(-1,): (2, 3)}, odds, CALM, 0, ())
        self.tells({(-1,): (1, 1)}, odds, weighed((4,), lots_of(1), [1]), 0, ())
        self.tells({(-1,): (3, 1)}, odds, weighed((2,), lots_of(1), [3, 1, 6, 2]), 0, ())

    def test_two_columns(self):
        whole = weighed((2, 2), [(0,), (0, 1)], [1, 3, 2, 6, 5, 2, 10, 4])
        self.tells({(0, -1): (1, 3), (1, -1): (5, 2)}, odds, whole, 1, (0,))

    def test_worked_out_another_way(self):
        for place, sizes in enumerate(SOME_SIZES):
            for family in (lots_of(len(sizes)), lots_of(len(sizes))[1:], lots_of(len(sizes))[-3:]):
                whole = woven(sizes, family, place + 2)
                shares = {key: Fraction(*fraction) for key, fraction in whole.shares}
                for column, pattern in steps_of(family, len(sizes)):
                    more = tuple(sorted(pattern + (column,)))
                    answer = {content[:column] + (-1,) + content[column + 1:]:
                              as_pair(shares[content, pattern] / shares[content, more])
                              for content in itertools.product(*[range(size) for size in sizes])}
                    self.assertEqual(odds(whole, column, pattern), answer)
        self.tells(answer, odds, whole, column, pattern)

    def test_the_dict_is_new(self):
        told = odds(CALM, 0, ())
        told.clear()
        self.tells({(-1,): (2, 3)}, odds, CALM, 0, ())

    def test_no_column(self):
        for column in odd_numbers() + [1, 2, -1, SIXTY, "0", (0,), [0]]:
            self.raises(NoColumn, {}, odds, CALM, column, ())
            # It comes ahead of all else.
            self.raises(NoColumn, {}, odds, UNCALM, column, None)
        for columns in (2, 3, 4):
            whole = woven((2,) * columns, lots_of(columns), 1)
            self.raises(NoColumn, {}, odds, whole, columns, ())
            self.assertEqual(len(odds(whole, columns - 1, ())), 2 ** (columns - 1))

    def test_no_pattern(self):
        calm = woven((2, 3), lots_of(2), 1)
        for pattern in odd_things() + WRONG_PATTERNS + [(0,), (0, 1), (2,), (1, 2)]:
            self.raises(NoPattern, {}, odds, calm, 0, pattern)
            # It comes ahead of what is not calm.
            self.raises(NoPattern, {}, odds, uneven((2, 3), lots_of(2), 1), 0, pattern)
        for _, pattern in altered((0,)):
            self.raises(NoPattern, {}, odds, calm, 1, pattern)

    def test_no_pattern_of_the_family(self):
        for family in [[()], [(0,)], [(0, 1)], [(), (0, 1)], [(0,), (1,)], [(), (0,), (1,)], [(0,), (0, 1), (1,)],
                       [(), (1,)], [(), (0,), (0, 1)], lots_of(2)]:
            whole = woven((2, 2), family, 1)
            for column in (0, 1):
                for pattern in lots_of(2):
                    if (column, pattern) in steps_of(family, 2):
                        self.assertEqual(len(odds(whole, column, pattern)), 2)
                    else:
                        self.raises(NoPattern, {}, odds, whole, column, pattern)
        self.raises(NoPattern, {}, odds, bare_whole(), 0, ())

    def test_not_calm(self):
        self.raises(NotCalm, {"column": 0}, odds, UNCALM, 0, ())
        whole = weighed((2, 2), [(0,), (0, 1)], [1, 3, 2, 6, 5, 2, 10, 5])
        self.raises(NotCalm, {"column": 1}, odds, whole, 1, (0,))
        # The column is that of first_uncalm, not that which is asked of.
        whole = with_weight(woven((2, 2), lots_of(2), 1), ((0, 0), ()), 2)
        self.raises(NotCalm, {"column": 0}, odds, whole, 1, (0,))
        whole = with_weight(woven((2, 2, 2), [(0,), (0, 1), (0, 1, 2), (0, 2)], 1), ((0, 0, 0), (0,)), 2)
        self.raises(NotCalm, {"column": 1}, odds, whole, 2, (0, 1))
        whole = with_weight(woven((2, 2, 2, 2), [(0, 1, 2), (0, 1, 2, 3)], 1), ((0, 0, 0, 0), (0, 1, 2)), 2)
        self.raises(NotCalm, {"column": 3}, odds, whole, 3, (0, 1, 2))

    def test_sixty_digits(self):
        whole = weighed((2,), lots_of(1), [SIXTY, SIXTY - 2, 2 * SIXTY, 2 * SIXTY - 4])
        self.tells({(-1,): as_pair(Fraction(SIXTY, SIXTY - 2))}, odds, whole, 0, ())


if __name__ == "__main__":
    unittest.main()
