"""Seen tables and wholes, their families and shares (1.2)."""

import itertools
import unittest
import unittest.mock
from fractions import Fraction

from calmblanks.errors import BadSeen, BadWhole
from calmblanks.tables import Seen, Whole, family, patterns, seen_of_rows, share, views
from calmblanks.webs import Web
from tests.helper import (ROWS, SIXTY, Checks, altered, as_pair, bare_whole, halves, keys_of, lots_of, odd_things,
                          uneven, weighed)
from tests.test_contents import WRONG_SIZES

SEEN_SHARES = (((-1, 0), (1, 6)), ((0, -1), (1, 3)), ((0, 1), (1, 4)), ((1, 1), (1, 4)))
WHOLE_SHARES = ((((0,), ()), (1, 6)), (((0,), (0,)), (1, 3)), (((1,), ()), (1, 4)), (((1,), (0,)), (1, 4)))
WRONG_FRACTIONS = [
    (0, 1), (-1, 4), (2, 8), (1, 0), (1, -4), (-1, -4), (1,), (1, 4, 1), (), 1, (True, 4), (1, True), ("1", 4), (1, "4"),
    (None, 4), [1, 4], "1/4", (b"1", 4), ((1,), 4), (0, 4), (-SIXTY, 1), None, {1: 4}, (1, 4, 0),
]


def replaced(shares, place, item):
    return shares[:place] + (item,) + shares[place + 1:]


class SeenTables(Checks):
    def test_attributes(self):
        seen = Seen((2, 2), SEEN_SHARES)
        self.assertEqual(vars(seen), {"sizes": (2, 2), "shares": SEEN_SHARES})

    def test_one_view_with_the_share_1(self):
        for item in itertools.product((-1, 0, 1), repeat=4):
            self.assertEqual(Seen((2, 2, 2, 2), ((item, (1, 1)),)).shares, ((item, (1, 1)),))

    def test_all_81_views(self):
        shares = tuple((item, (1, 81)) for item in itertools.product((-1, 0, 1), repeat=4))
        self.assertEqual(Seen((2, 2, 2, 2), shares).shares, shares)

    def test_wrong_sizes_come_first(self):
        for sizes in WRONG_SIZES + odd_things():
            self.raises(BadSeen, {"part": "sizes"}, Seen, sizes, SEEN_SHARES)
            self.raises(BadSeen, {"part": "sizes"}, Seen, sizes, None)

    def test_shares_that_are_no_tuple(self):
        for shares in odd_things() + [list(SEEN_SHARES), 0, 1, dict(SEEN_SHARES), iter(SEEN_SHARES)]:
            if not isinstance(shares, tuple):
                self.raises(BadSeen, {"part": "shares"}, Seen, (2, 2), shares)

    def test_the_first_wrong_item(self):
        for place in range(4):
            for item in odd_things() + [0, (), (0,), (0, 0), SEEN_SHARES[place][0], SEEN_SHARES[place] + (0,)]:
                self.raises(BadSeen, {"part": place}, Seen, (2, 2), replaced(SEEN_SHARES, place, item))

    def test_wrong_views(self):
        for item in [(-2, 0), (2, 0), (0, 2), (0,), (0, 0, 0), (True, 1), (1, True), (1, False), [1, 1], "11", None,
                     (SIXTY, 0), (0, -SIXTY), ((1, 1), (0, 1))]:
            self.raises(BadSeen, {"part": 3}, Seen, (2, 2), replaced(SEEN_SHARES, 3, (item, (1, 4))))

    def test_wrong_fractions(self):
        for place in range(4):
            for fraction in WRONG_FRACTIONS:
                item = (SEEN_SHARES[place][0], fraction)
                self.raises(BadSeen, {"part": place}, Seen, (2, 2), replaced(SEEN_SHARES, place, item))

    def test_anything_within_of_another_kind(self):
        for path, shares in altered(SEEN_SHARES):
            if path:
                self.raises(BadSeen, {"part": path[0]}, Seen, (2, 2), shares)

    def test_views_that_do_not_ascend(self):
        one, two, three, four = SEEN_SHARES
        self.raises(BadSeen, {"part": 1}, Seen, (2, 2), (one, one, two, three))
        self.raises(BadSeen, {"part": 1}, Seen, (2, 2), (two, one, three, four))
        self.raises(BadSeen, {"part": 3}, Seen, (2, 2), (one, two, four, three))
        # The item is not less than the one ahead, but its view is the same.
        self.raises(BadSeen, {"part": 1}, Seen, (2, 2), (((0, 0), (1, 3)), ((0, 0), (2, 3))))

    def test_the_first_of_several_wrong_items(self):
        one, two, three, four = SEEN_SHARES
        self.raises(BadSeen, {"part": 1}, Seen, (2, 2), (one, two[:1], None, four))
        self.raises(BadSeen, {"part": 1}, Seen, (2, 2), (two, one, None, four))
        self.raises(BadSeen, {"part": 2}, Seen, (2, 2), (one, two, None, three))

    def test_a_sum_other_than_1(self):
        self.raises(BadSeen, {"part": "sum"}, Seen, (2, 2), ())
        for place in range(4):
            self.raises(BadSeen, {"part": "sum"}, Seen, (2, 2), SEEN_SHARES[:place] + SEEN_SHARES[place + 1:])
        self.raises(BadSeen, {"part": "sum"}, Seen, (2,), (((0,), (1, 2)), ((1,), (2, 3))))
        self.raises(BadSeen, {"part": "sum"}, Seen, (2,), (((0,), (2, 1)),))

    def test_sixty_digits(self):
        one = (SIXTY - 1, SIXTY)
        self.assertEqual(Seen((2,), (((0,), one), ((1,), (1, SIXTY)))).shares[0][1], one)
        self.raises(BadSeen, {"part": "sum"}, Seen, (2,), (((0,), one), ((1,), (2, SIXTY))))
        self.raises(BadSeen, {"part": "sum"}, Seen, (2,), (((0,), one), ((1,), (1, SIXTY - 1))))
        self.raises(BadSeen, {"part": 1}, Seen, (2,), (((0,), one), ((1,), (3, SIXTY))))

    def test_equal_if_sizes_and_shares_are(self):
        self.assertEqual(Seen((2, 2), SEEN_SHARES), Seen((2, 2), tuple(list(SEEN_SHARES))))
        self.assertFalse(Seen((2, 2), SEEN_SHARES) != Seen((2, 2), SEEN_SHARES))
        self.assertNotEqual(Seen((2, 2), SEEN_SHARES), Seen((2, 3), SEEN_SHARES))
        self.assertNotEqual(halves(), Seen((2,), (((0,), (1, 3)), ((1,), (2, 3)))))

    def test_equal_to_nothing_else(self):
        seen = halves()
        for thing in odd_things() + [(seen.sizes, seen.shares), seen.shares, vars(seen), unittest.mock.ANY]:
            if not isinstance(thing, Seen):
                self.assertIs(seen == thing, False)
                self.assertIs(seen != thing, True)

    def test_equality_is_the_classes_own(self):
        for kind in (Seen, Whole, Web):
            self.assertIn("__eq__", vars(kind))


class Wholes(Checks):
    def test_attributes(self):
        whole = Whole((2,), WHOLE_SHARES)
        self.assertEqual(vars(whole), {"sizes": (2,), "shares": WHOLE_SHARES})

    def test_families_of_one_some_and_all_patterns(self):
        for sizes in [(2,), (4,), (2, 3), (2, 2, 2), (2, 2, 2, 2)]:
            everything = lots_of(len(sizes))
            for own in [everything] + [everything[:2], everything[1:], everything[-1:], everything[:1]]:
                whole = uneven(sizes, own, 5)
                self.assertEqual([key for key, _ in whole.shares], keys_of(sizes, own))

    def test_wrong_sizes_come_first(self):
        for sizes in WRONG_SIZES + odd_things():
            self.raises(BadWhole, {"part": "sizes"}, Whole, sizes, WHOLE_SHARES)
            self.raises(BadWhole, {"part": "sizes"}, Whole, sizes, None)

    def test_shares_that_are_no_tuple(self):
        for shares in odd_things() + [list(WHOLE_SHARES), 0, 1, dict(WHOLE_SHARES)]:
            if not isinstance(shares, tuple):
                self.raises(BadWhole, {"part": "shares"}, Whole, (2,), shares)

    def test_the_first_wrong_item(self):
        for place in range(4):
            for item in odd_things() + [0, (), (0,), ((0,), (1, 4)), WHOLE_SHARES[place] + (0,), WHOLE_SHARES[place][:1]]:
                self.raises(BadWhole, {"part": place}, Whole, (2,), replaced(WHOLE_SHARES, place, item))

    def test_wrong_contents_and_patterns(self):
        for key in [(1,), ((1,),), ((1,), (0,), ()), ((2,), (0,)), ((-1,), (0,)), ((1, 1), (0,)), ((True,), (0,)),
                    ((1,), (1,)), ((1,), (0, 0)), ((1,), (False,)), ((1,), [0]), ([1], (0,)), [(1,), (0,)], ((1,), None),
                    (1, (0,)), ((1,), 0), ((1,), (-1,))]:
            self.raises(BadWhole, {"part": 3}, Whole, (2,), replaced(WHOLE_SHARES, 3, (key, (1, 4))))

    def test_wrong_fractions(self):
        for place in range(4):
            for fraction in WRONG_FRACTIONS:
                item = (WHOLE_SHARES[place][0], fraction)
                self.raises(BadWhole, {"part": place}, Whole, (2,), replaced(WHOLE_SHARES, place, item))

    def test_anything_within_of_another_kind(self):
        for path, shares in altered(WHOLE_SHARES):
            if path:
                self.raises(BadWhole, {"part": path[0]}, Whole, (2,), shares)

    def test_items_that_do_not_ascend(self):
        one, two, three, four = WHOLE_SHARES
        self.raises(BadWhole, {"part": 1}, Whole, (2,), (one, one, three, four))
        self.raises(BadWhole, {"part": 2}, Whole, (2,), (one, three, two, four))
        self.raises(BadWhole, {"part": 1}, Whole, (2,), (two, one, three, four))
        self.raises(BadWhole, {"part": 1}, Whole, (2,), ((((0,), ()), (1, 3)), (((0,), ()), (2, 3))))

    def test_a_sum_other_than_1(self):
        self.raises(BadWhole, {"part": "sum"}, Whole, (2,), ())
        self.raises(BadWhole, {"part": "sum"}, Whole, (2,), (WHOLE_SHARES[0], WHOLE_SHARES[2]))
        self.raises(BadWhole, {"part": "sum"}, Whole, (2,), replaced(WHOLE_SHARES, 3, (((1,), (0,)), (1, 5))))
        # The sum is told ahead of the pattern that some contents lack.
        self.raises(BadWhole, {"part": "sum"}, Whole, (2,), WHOLE_SHARES[:3])

    def test_a_pattern_that_some_contents_lack(self):
        self.raises(BadWhole, {"part": ()}, Whole, (2,), ((((0,), ()), (1, 1)),))
        self.raises(BadWhole, {"part": (0,)}, Whole, (2,), ((((0,), (0,)), (1, 1)),))
        shares = ((((0,), ()), (1, 2)), (((0,), (0,)), (1, 4)), (((1,), ()), (1, 4)))
        self.raises(BadWhole, {"part": (0,)}, Whole, (2,), shares)

    def test_the_least_pattern_that_some_contents_lack(self):
        sizes = (2, 2)
        for least, other in itertools.combinations(lots_of(2), 2):
            for one, two in itertools.permutations(itertools.product(range(2), repeat=2), 2):
                keys = [key for key in keys_of(sizes, lots_of(2)) if key not in [(one, least), (two, other)]]
                shares = tuple((key, as_pair(Fraction(1, len(keys)))) for key in keys)
                self.raises(BadWhole, {"part": least}, Whole, sizes, shares)

    def test_sixty_digits(self):
        one = (SIXTY - 1, SIXTY)
        whole = Whole((2,), ((((0,), (0,)), (1, SIXTY)), (((1,), (0,)), one)))
        self.assertEqual(whole.shares[1][1], one)
        self.raises(BadWhole, {"part": "sum"}, Whole, (2,), ((((0,), (0,)), (2, SIXTY)), (((1,), (0,)), one)))

    def test_equal_if_sizes_and_shares_are(self):
        self.assertEqual(Whole((2,), WHOLE_SHARES), Whole((2,), tuple(list(WHOLE_SHARES))))
        self.assertFalse(bare_whole() != bare_whole())
        self.assertNotEqual(Whole((2,), WHOLE_SHARES), bare_whole())
        self.assertNotEqual(uneven((2,), [()], 1), uneven((2,), [()], 2))
        self.assertNotEqual(uneven((2,), [()], 1), uneven((2,), [(0,)], 1))

    def test_equal_to_nothing_else(self):
        whole = bare_whole()
        for thing in odd_things() + [(whole.sizes, whole.shares), whole.shares, vars(whole), unittest.mock.ANY]:
            if not isinstance(thing, Whole):
                self.assertIs(whole == thing, False)
                self.assertIs(whole != thing, True)


class Families(Checks):
    def test_of_seen_tables(self):
        self.tells([(0,), (0, 1), (1,)], family, Seen((2, 2), SEEN_SHARES))
        self.tells([(0,)], family, halves())
        self.tells([()], family, Seen((2, 2), (((-1, -1), (1, 1)),)))
        self.tells([(), (0,), (0, 1), (1,)], family, seen_of_rows((2, 2), ROWS))
        self.tells([(0, 1, 2, 3), (1, 3)], family, seen_of_rows((2, 2, 2, 2), [(0, 0, 0, 0), (-1, 1, -1, 0)]))

    def test_of_wholes(self):
        for own in [[()], [(0,)], [(), (0, 1)], [(0,), (1,)], lots_of(2)]:
            self.tells(own, family, uneven((2, 3), own, 3))

    def test_of_four_columns(self):
        self.tells(lots_of(4), family, uneven((2, 2, 2, 2), lots_of(4), 3))
        shares = tuple((item, (1, 81)) for item in itertools.product((-1, 0, 1), repeat=4))
        self.tells(lots_of(4), family, Seen((2, 2, 2, 2), shares))


class Shares(Checks):
    def test_of_views(self):
        seen = seen_of_rows((2, 2), ROWS)
        for item, answer in [((0, 0), (1, 5)), ((0, 1), (1, 10)), ((1, 0), (1, 20)), ((1, 1), (3, 20)), ((0, -1), (3, 20)),
                             ((1, -1), (1, 10)), ((-1, 0), (1, 10)), ((-1, 1), (1, 10)), ((-1, -1), (1, 20))]:
            self.tells(answer, share, seen, item)

    def test_of_views_that_do_not_come(self):
        seen = Seen((2, 2), SEEN_SHARES)
        for pattern in patterns((2, 2)):
            for item in views((2, 2), pattern):
                self.tells(dict(SEEN_SHARES).get(item, (0, 1)), share, seen, item)

    def test_of_contents_and_patterns(self):
        whole = weighed((2,), lots_of(1), [1, 2, 3, 4])
        self.tells((1, 10), share, whole, ((0,), ()))
        self.tells((1, 5), share, whole, ((0,), (0,)))
        self.tells((3, 10), share, whole, ((1,), ()))
        self.tells((2, 5), share, whole, ((1,), (0,)))
        self.tells((0, 1), share, bare_whole(), ((0,), ()))

    def test_one_share_of_1(self):
        self.tells((1, 1), share, Seen((2,), (((-1,), (1, 1)),)), (-1,))

    def test_of_what_has_none_whatever_it_is(self):
        tables = [seen_of_rows((2, 2), ROWS), uneven((2, 2), lots_of(2), 1)]
        keys = [0, (), (0,), (0, 0, 0), (2, 2), (True, 0), (0, False), [0, 0], "00", (SIXTY, 0), (-2, 0),
                ((0, 0),), ((0, 0), (0, 0)), ((0, 0), (2,)), ((0, False), (0,)), ((0, 0), (False,)), ((0, 0), [0]),
                [(0, 0), (0,)], ((0, 0), (0,), ()), ((0, 0), (1, 0)), {}, ((0, 0), {}), ([0, 0], ())]
        for table in tables:
            for key in keys + odd_things():
                self.tells((0, 1), share, table, key)

    def test_keys_of_the_other_kind_of_table(self):
        self.tells((0, 1), share, seen_of_rows((2, 2), ROWS), ((0, 0), (0, 1)))
        self.tells((0, 1), share, uneven((2, 2), lots_of(2), 1), (0, 0))


if __name__ == "__main__":
    unittest.main()
