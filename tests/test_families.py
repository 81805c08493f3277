"""Families of patterns, and calm twins (5)."""

import itertools
import unittest

from calmblanks.calm import calm_whole
from calmblanks.errors import BadFamily, BadSizes, NoNumber
from calmblanks.families import (are_calm_twins, calm_twins, closed_around, closed_families, is_closed,
                                 lacking_patterns)
from calmblanks.tables import Whole, hidden, mixed
from tests.helper import (SIXTY, Checks, all_families, altered, bare_whole, frozen, halves, keys_of, lots_of,
                          odd_numbers, odd_things, sizes_of_all, tilted, uneven, weighed, woven)
from tests.test_calm import first_by_the_book
from tests.test_calm_whole import seen_weighed
from tests.test_contents import WRONG_SIZES
from tests.test_telling import sums_by_view

WRONG_COLUMNS = [0, 5, -1, SIXTY, "1", (1,), [2], None, True, False, b"\x01", {1: 1}, (), range(2)]
# What is no family of two columns.
WRONG_FAMILIES = [
    (), [], [()], [(), (0,)], ((0,), ()), ((), ()), ((0, 1), (0, 1)), ((0, 1), (0,)), ((1,), (0, 1)), ((2,),),
    ((0, 2),), ((1, 0),),
    ((0, 0),), ((-1,),), ((True,),), ((False, 1),), ((0,), (True,)), ([],), ([0],), ((), [0]), (0,), (0, 1), ((), 0),
    ((), None), "",
    "01", (("0",),), {(): 0}, {0: ()}, None, 0, ((SIXTY,),), (((0,),),), ((), (0,), (1,), (0, 1)), (b"",), ("",),
    ((), {}),
]


def closed_one_by_one(columns, own):
    """The least closed family, by putting one column to one pattern, again and again."""
    found = set(own)
    while True:
        more = {tuple(sorted(pattern + (column,
                                        ))) for pattern in found for column in range(columns) if column not in pattern}
        if more <= found:
            return tuple(sorted(found))
        found |= more


def right_calm_twins(sizes, own, pair):
    """As the document says it, by sums and products of the test's own."""
    if not isinstance(pair, tuple) or len(pair) != 2 or not all(isinstance(whole, Whole) for whole in pair):
        return False
    for whole in pair:
        if whole.sizes != sizes or [key for key, _ in whole.shares] != keys_of(sizes, own):
            return False
        if first_by_the_book(whole) is not None:
            return False
    return pair[0].shares != pair[1].shares and sums_by_view(pair[0]) == sums_by_view(pair[1])


class Closed(Checks):
    def test_by_hand(self):
        self.tells(True, is_closed, 1, ((0,),))
        self.tells(True, is_closed, 1, ((), (0,)))
        self.tells(False, is_closed, 1, ((),))
        self.tells(True, is_closed, 2, ((0, 1), (1,)))
        self.tells(False, is_closed, 2, ((), (0,), (0, 1)))
        self.tells(False, is_closed, 2, ((0,), (1,)))
        self.tells(False, is_closed, 4, ((1, 2),))
        self.tells(True, is_closed, 4, ((0, 1, 2), (0, 1, 2, 3), (1, 2), (1, 2, 3)))
        self.tells(((0, 1, 2), (0, 1, 2, 3), (1, 2), (1, 2, 3)), closed_around, 4, ((1, 2),))
        self.tells([(0, 1, 2), (0, 1, 2, 3), (1, 2, 3)], lacking_patterns, 4, ((1, 2),))
        self.tells([(0,), (0, 1)], lacking_patterns, 2, ((), (1,)))
        self.tells([], lacking_patterns, 2, ((0, 1),))
        self.tells([(0,)], lacking_patterns, 1, ((),))

    def test_putting_columns_to_patterns_one_by_one(self):
        for columns in (1, 2, 3, 4):
            for own in all_families(columns)[::1 if columns < 4 else 97]:
                closed = closed_one_by_one(columns, own)
                self.tells(closed == own, is_closed, columns, own)
                self.tells(closed, closed_around, columns, own)
                self.tells([pattern for pattern in closed if pattern not in own], lacking_patterns, columns, own)
                self.assertIs(is_closed(columns, closed), True)
                self.assertEqual(closed_around(columns, closed), closed)

    def test_one_pattern_and_sixteen(self):
        for pattern in lots_of(4):
            self.tells(closed_one_by_one(4, (pattern,)), closed_around, 4, (pattern,))
            self.tells(pattern == (0, 1, 2, 3), is_closed, 4, (pattern,))
        everything = tuple(lots_of(4))
        self.tells(True, is_closed, 4, everything)
        self.tells(everything, closed_around, 4, everything)
        self.tells(everything, closed_around, 4, ((),))
        self.tells(list(everything[1:]), lacking_patterns, 4, ((),))
        for pattern in everything:
            own = tuple(other for other in everything if other != pattern)
            self.tells([pattern] if pattern else [], lacking_patterns, 4, own)
            self.tells(pattern == (), is_closed, 4, own)

    def test_no_number(self):
        for function in (is_closed, closed_around, lacking_patterns):
            for columns in WRONG_COLUMNS + odd_numbers():
                for own in [((),), None, (), ((0,),), 0]:
                    self.raises(NoNumber, {}, function, columns, own)

    def test_bad_family(self):
        for function in (is_closed, closed_around, lacking_patterns):
            for own in WRONG_FAMILIES + odd_things():
                self.raises(BadFamily, {}, function, 2, own)
            for path, own in altered(((), (0,), (0, 1), (1,))):
                self.raises(BadFamily, {}, function, 2, own)
            for columns in (1, 2, 3, 4):
                self.raises(BadFamily, {}, function, columns, ((columns,),))
                self.raises(BadFamily, {}, function, columns, tuple(lots_of(columns)) + ((columns,),))
            self.raises(BadFamily, {}, function, 1, ((0, 1),))
            self.raises(BadFamily, {}, function, 4, ((),) * 5000)


class ClosedFamilies(Checks):
    def test_one_and_two_columns(self):
        self.tells([((), (0,)), ((0,),)], closed_families, 1)
        answer = [((), (0,), (0, 1), (1,)), ((0,), (0, 1)), ((0,), (0, 1), (1,)), ((0, 1),), ((0, 1), (1,))]
        self.tells(answer, closed_families, 2)

    def test_all_that_are_closed(self):
        for columns, many in [(1, 2), (2, 5), (3, 19)]:
            answer = sorted(own for own in all_families(columns) if closed_one_by_one(columns, own) == own)
            self.assertEqual(len(answer), many)
            self.tells(answer, closed_families, columns)

    def test_no_number(self):
        for columns in WRONG_COLUMNS + odd_numbers() + [4]:
            self.raises(NoNumber, {}, closed_families, columns)


class CalmTwins(Checks):
    def check(self, sizes, own):
        pair = calm_twins(sizes, own)
        if closed_one_by_one(len(sizes), own) == own:
            self.assertIsNone(pair)
            return
        self.assertTrue(right_calm_twins(sizes, own, pair), (sizes, own))
        self.assertIs(are_calm_twins(sizes, own, pair), True)
        self.assertEqual(frozen(calm_twins(sizes, own)), frozen(pair))

    def test_all_families_of_up_to_three_columns(self):
        for sizes in [(2,), (3,), (4,), (2, 2), (3, 2), (4, 4), (2, 2, 2)]:
            for own in all_families(len(sizes)):
                self.check(sizes, own)

    def test_some_families_of_more_worths_and_columns(self):
        for own in all_families(3)[::17]:
            self.check((2, 3, 4), own)
            self.check((4, 4, 4), own)
        for own in all_families(4)[::4001]:
            self.check((2, 2, 2, 2), own)
        for pattern in lots_of(4):
            self.check((2, 2, 2, 2), (pattern,))
            self.check((2, 2, 2, 2), tuple(other for other in lots_of(4) if other != pattern))
        self.check((2, 4, 2, 4), ((0, 1, 2), (1,), (2, 3)))

    def test_all_sizes(self):
        for sizes in sizes_of_all():
            own = ((), (0,))
            if len(sizes) > 1:
                self.check(sizes, own)
            self.check(sizes, (tuple(range(len(sizes) - 1)),))
            self.check(sizes, (tuple(range(len(sizes))),))

    def test_the_fact_of_families(self):
        for own in all_families(2):
            seen = seen_weighed((2, 3), list(own), [3, 1, 4, 1, 5, 9, 2])
            if is_closed(2, own):
                self.assertEqual(hidden(calm_whole(seen)), seen)
                self.tells(None, calm_twins, (2, 3), own)
            else:
                one, other = calm_twins((2, 3), own)
                self.assertEqual(hidden(one), hidden(other))
                self.assertNotEqual(one, other)

    def test_wrong_sizes_and_families(self):
        pair = calm_twins((2, 2), ((),))
        for sizes in WRONG_SIZES + odd_things():
            for own in [((),), None, ()]:
                self.raises(BadSizes, {}, calm_twins, sizes, own)
                self.raises(BadSizes, {}, are_calm_twins, sizes, own, pair)
                self.raises(BadSizes, {}, are_calm_twins, sizes, own, None)
        for own in WRONG_FAMILIES + odd_things():
            self.raises(BadFamily, {}, calm_twins, (2, 2), own)
            self.raises(BadFamily, {}, are_calm_twins, (2, 2), own, pair)
            self.raises(BadFamily, {}, are_calm_twins, (2, 2), own, own)
        for path, own in altered(((), (1,))):
            self.raises(BadFamily, {}, calm_twins, (2, 2), own)
        self.raises(BadFamily, {}, calm_twins, (2,), ((0, 1),))
        self.raises(BadFamily, {}, calm_twins, (2, 2, 2), ((0, 3),))


class AreCalmTwins(Checks):
    # Of (content, pattern) as they ascend: ((0,), ()), ((1,), ()).
    ONE = weighed((2,), [()], [1, 2])
    OTHER = weighed((2,), [()], [2, 1])

    def test_by_hand(self):
        self.tells(True, are_calm_twins, (2,), ((),), (self.ONE, self.OTHER))
        self.tells(True, are_calm_twins, (2,), ((),), (self.OTHER, self.ONE))
        self.tells(False, are_calm_twins, (2,), ((),), (self.ONE, self.ONE))
        self.tells(False, are_calm_twins, (2,), ((),), (self.ONE, weighed((2,), [()], [1, 2])))
        self.tells(False, are_calm_twins, (2,), ((0,),), (bare_whole(), bare_whole()))
        self.tells(False, are_calm_twins, (2,), ((0,),), (bare_whole(), weighed((2,), [(0,)], [1, 1])))

    def test_of_other_sizes_or_families(self):
        self.tells(False, are_calm_twins, (3,), ((),), (self.ONE, self.OTHER))
        self.tells(False, are_calm_twins, (2, 2), ((),), (self.ONE, self.OTHER))
        self.tells(False, are_calm_twins, (2,), ((0,),), (self.ONE, self.OTHER))
        self.tells(False, are_calm_twins, (2,), ((), (0,)), (self.ONE, self.OTHER))
        one, other = calm_twins((2, 2), ((), (0,)))
        self.tells(True, are_calm_twins, (2, 2), ((), (0,)), (one, other))
        for own in all_families(2):
            if own != ((), (0,)):
                self.tells(False, are_calm_twins, (2, 2), own, (one, other))

    def test_not_hidden_alike_or_not_calm(self):
        own = ((0, 1), (1,))
        self.tells(False, are_calm_twins, (2, 2), own, (woven((2, 2), own, 1), woven((2, 2), own, 2)))
        one = tilted((2, 2), own, (((1, 1), (2, 1)), ((1, 1), (1, 1))), 1)
        calm = calm_whole(hidden(one))
        self.assertEqual(hidden(one), hidden(calm))
        self.tells(False, are_calm_twins, (2, 2), own, (one, calm))
        self.tells(False, are_calm_twins, (2, 2), own, (calm, one))
        own = ((0,), (1,))
        one, other = weighed((2, 2), own, [3, 1, 1, 3, 1, 3, 3, 1]), weighed((2, 2), own, [1, 3, 3, 1, 3, 1, 1, 3])
        self.tells(True, right_calm_twins, (2, 2), own, (one, other))
        self.tells(True, are_calm_twins, (2, 2), own, (one, other))
        self.tells(False, are_calm_twins, (2, 2), own, (one, uneven((2, 2), own, 1)))

    def test_judged_by_sums_and_products(self):
        for own in all_families(2):
            wholes = [woven((2, 2), own, 1), uneven((2, 2), own, 2), weighed((2, 2), own, [1])]
            wholes += list(calm_twins((2, 2), own) or ())
            for pair in itertools.product(wholes, repeat=2):
                self.tells(right_calm_twins((2, 2), list(own), pair), are_calm_twins, (2, 2), own, pair)

    def test_mixed_ones_are_twins_if_both_are_even_to_see(self):
        one, other = calm_twins((3, 2), ((0,), (1,)))
        half = mixed(one, other, (1, 3))
        self.tells(right_calm_twins((3, 2), [(0,), (1,)], (half, one)), are_calm_twins, (3, 2), ((0,), (1,)),
                   (half, one))

    def test_what_is_no_pair_of_wholes(self):
        wrong = odd_things() + [(), (self.ONE,), (self.ONE, self.OTHER, self.OTHER), [self.ONE, self.OTHER], self.ONE,
                                (self.ONE, None), (None, self.OTHER), (self.ONE, self.OTHER.shares),
                                (self.ONE, hidden(self.OTHER)),
                                (halves(), halves()), {0: self.ONE, 1: self.OTHER}, ((self.ONE, self.OTHER),), "ab",
                                ([self.ONE], [self.OTHER]), (self.ONE.shares, self.OTHER.shares)]
        for thing in wrong:
            self.tells(False, are_calm_twins, (2,), ((),), thing)
            self.tells(False, are_calm_twins, (2,), ((),), (self.ONE, thing))
            self.tells(False, are_calm_twins, (2,), ((), (0,)), thing)

    def test_numbers_of_any_size(self):
        one, other = calm_twins((2,), ((),))
        for _ in range(90):
            one = mixed(one, self.ONE, (SIXTY - 2, SIXTY))
        self.tells(True, are_calm_twins, (2,), ((),), (one, other))
        self.tells(False, are_calm_twins, (2,), ((),), (one, one))


if __name__ == "__main__":
    unittest.main()
