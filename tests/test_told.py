"""What is hidden, sums of shares, full tables, tables of rows, mixed wholes (1.3)."""

import itertools
import unittest
from fractions import Fraction

from calmblanks.errors import BadRow, BadSizes, NoFraction, OtherSizes
from calmblanks.tables import (Seen, Whole, contents_alone, family, hidden, is_full, lacking, mixed, patterns_alone,
                               seen_of_rows, share)
from tests.helper import (ROWS, SIXTY, Checks, altered, as_pair, bare_whole, halves, keys_of, lots_of, odd_things,
                          sizes_of_all, uneven, weighed)
from tests.test_contents import WRONG_SIZES
from tests.test_wholes import WRONG_FRACTIONS


def some_wholes():
    for sizes in [(2,), (4,), (2, 3), (3, 2, 2), (2, 2, 2, 2), (4, 4, 4)]:
        everything = lots_of(len(sizes))
        for own in (everything, everything[:1], everything[-1:], everything[1::2]):
            for start in (1, 2):
                yield uneven(sizes, own, start)


def sums(pairs):
    """Worked out by Python's fractions: the ascending tuple of keys with their sums."""
    found = {}
    for key, fraction in pairs:
        found[key] = found.get(key, 0) + Fraction(*fraction)
    return tuple((key, as_pair(found[key])) for key in sorted(found))


class Hidden(Checks):
    def test_one_column(self):
        whole = weighed((2,), lots_of(1), [1, 2, 3, 4])
        self.tells(Seen((2,), (((-1,), (2, 5)), ((0,), (1, 5)), ((1,), (2, 5)))), hidden, whole)

    def test_two_columns(self):
        whole = weighed((2, 2), [(0,), (0, 1)], [1, 2, 3, 4, 5, 6, 7, 8])
        answer = (((0, -1), (1, 9)), ((0, 0), (1, 18)), ((0, 1), (1, 9)),
                  ((1, -1), (1, 3)), ((1, 0), (1, 6)), ((1, 1), (2, 9)))
        self.tells(Seen((2, 2), answer), hidden, whole)

    def test_all_blank(self):
        self.tells(Seen((2, 3), (((-1, -1), (1, 1)),)), hidden, uneven((2, 3), [()], 4))

    def test_nothing_blank(self):
        whole = bare_whole()
        self.tells(Seen((2,), (((0,), (1, 3)), ((1,), (2, 3)))), hidden, whole)

    def test_worked_out_another_way(self):
        for whole in some_wholes():
            pairs = [(tuple(worth if column in pattern else -1 for column, worth in enumerate(content)), fraction)
                     for (content, pattern), fraction in whole.shares]
            self.tells(Seen(whole.sizes, sums(pairs)), hidden, whole)

    def test_it_is_full_and_of_the_same_family(self):
        for whole in some_wholes():
            self.assertTrue(is_full(hidden(whole)))
            self.assertEqual(family(hidden(whole)), family(whole))
            self.assertEqual(patterns_alone(hidden(whole)), patterns_alone(whole))


class Alone(Checks):
    def test_contents(self):
        self.tells((((0,), (3, 10)), ((1,), (7, 10))), contents_alone, weighed((2,), lots_of(1), [1, 2, 3, 4]))
        self.tells((((0,), (1, 3)), ((1,), (2, 3))), contents_alone, bare_whole())

    def test_patterns_of_wholes(self):
        self.tells((((), (2, 5)), ((0,), (3, 5))), patterns_alone, weighed((2,), lots_of(1), [1, 2, 3, 4]))
        self.tells((((0,), (1, 1)),), patterns_alone, bare_whole())

    def test_patterns_of_seen_tables(self):
        seen = seen_of_rows((2, 2), ROWS)
        answer = (((), (1, 20)), ((0,), (1, 4)), ((0, 1), (1, 2)), ((1,), (1, 5)))
        self.tells(answer, patterns_alone, seen)
        self.tells((((0,), (1, 1)),), patterns_alone, halves())

    def test_worked_out_another_way(self):
        for whole in some_wholes():
            self.tells(sums([(key[0], fraction) for key, fraction in whole.shares]), contents_alone, whole)
            answer = sums([(key[1], fraction) for key, fraction in whole.shares])
            self.tells(answer, patterns_alone, whole)
            self.tells(answer, patterns_alone, hidden(whole))

    def test_those_without_a_share_are_left_out(self):
        seen = Seen((2, 2), (((-1, 1), (1, 4)), ((0, 1), (3, 4))))
        self.tells((((0, 1), (3, 4)), ((1,), (1, 4))), patterns_alone, seen)


class Full(Checks):
    def test_full_tables(self):
        for seen in [halves(), seen_of_rows((2, 2), ROWS), Seen((4, 4), (((-1, -1), (1, 1)),))]:
            self.tells(True, is_full, seen)
            self.tells([], lacking, seen)

    def test_what_lacks(self):
        self.tells([(1,)], lacking, Seen((2,), (((0,), (1, 1)),)))
        self.tells([(0,), (2,), (3,)], lacking, Seen((4,), (((-1,), (1, 2)), ((1,), (1, 2)))))
        seen = Seen((2, 2), (((-1, -1), (1, 4)), ((0, -1), (1, 4)), ((0, 1), (1, 4)), ((1, 0), (1, 4))))
        self.tells([(0, 0), (1, -1), (1, 1)], lacking, seen)
        self.tells(False, is_full, seen)

    def test_what_lacks_ascends_whatever_its_pattern(self):
        seen = seen_of_rows((2, 3), [(1, -1), (-1, 2), (0, 1)])
        answer = [(-1, 0), (-1, 1), (0, -1), (0, 0), (0, 2), (1, 0), (1, 1), (1, 2)]
        self.tells(answer, lacking, seen)

    def test_each_view_of_the_family_is_wanted(self):
        whole = hidden(uneven((2, 3, 2), lots_of(3)[2:], 1))
        for place, (item, _) in enumerate(whole.shares):
            rows = [own for own, _ in whole.shares if own != item]
            seen = seen_of_rows(whole.sizes, rows)
            alone = item == (-1, -1, -1) or family(seen) != family(whole)
            self.tells([] if alone else [item], lacking, seen)
            self.tells(alone, is_full, seen)

    def test_four_columns(self):
        seen = seen_of_rows((2, 2, 2, 2), list(itertools.product((-1, 0, 1), repeat=4)))
        self.tells(True, is_full, seen)
        seen = seen_of_rows((2, 2, 2, 2), [(-1, 0, -1, 1)])
        self.tells([(-1, 0, -1, 0), (-1, 1, -1, 0), (-1, 1, -1, 1)], lacking, seen)
        seen = seen_of_rows((4, 4, 2, 2), [(0, 0, 0, 0)])
        self.assertEqual(len(lacking(seen)), 63)

    def test_other_things_are_not_full_tables(self):
        for thing in odd_things() + [0, 1, bare_whole()]:
            if not isinstance(thing, Seen):
                self.tells(False, is_full, thing)


class Rows(Checks):
    def test_the_example(self):
        answer = (((-1, -1), (1, 20)), ((-1, 0), (1, 10)), ((-1, 1), (1, 10)), ((0, -1), (3, 20)), ((0, 0), (1, 5)),
                  ((0, 1), (1, 10)), ((1, -1), (1, 10)), ((1, 0), (1, 20)), ((1, 1), (3, 20)))
        self.tells(Seen((2, 2), answer), seen_of_rows, (2, 2), ROWS)
        self.tells(Seen((2, 2), answer), seen_of_rows, (2, 2), tuple(ROWS))
        self.tells(Seen((2, 2), answer), seen_of_rows, (2, 2), ROWS[::-1] + ROWS)

    def test_one_row(self):
        for item in itertools.product((-1, 0, 1), repeat=4):
            self.tells(Seen((2, 2, 2, 2), ((item, (1, 1)),)), seen_of_rows, (2, 2, 2, 2), [item])

    def test_many_rows(self):
        rows = [(place % 3 - 1,) for place in range(6000)] + [(0,)] * 3000
        self.tells(Seen((2,), (((-1,), (2, 9)), ((0,), (5, 9)), ((1,), (2, 9)))), seen_of_rows, (2,), rows)

    def test_the_rows_are_not_kept(self):
        rows = [(0,), (1,)]
        seen = seen_of_rows((2,), rows)
        rows.append((1,))
        self.assertEqual(seen, halves())

    def test_wrong_sizes_come_first(self):
        for sizes in WRONG_SIZES + odd_things():
            self.raises(BadSizes, {}, seen_of_rows, sizes, [(0, 0)])
            self.raises(BadSizes, {}, seen_of_rows, sizes, None)

    def test_no_list_or_tuple_or_an_empty_one(self):
        for rows in [[], (), {}, {(0,): 1}, "", "00", b"", b"0", 0, 1, True, None, range(2), iter([(0,)]), zip(), halves(),
                     bare_whole(), bytearray(b"0"), int]:
            self.raises(BadRow, {"index": -1}, seen_of_rows, (2,), rows)

    def test_the_first_row_that_is_no_view(self):
        wrong = [(2,), (-2,), (), (0, 0), (True,), (False,), [0], ("0",), (None,), 0, "0", b"0", (SIXTY,), ((0,),)]
        for row in wrong + odd_things():
            for index in range(3):
                rows = [(0,), (-1,), (1,)]
                rows[index] = row
                self.raises(BadRow, {"index": index}, seen_of_rows, (2,), rows)
                self.raises(BadRow, {"index": index}, seen_of_rows, (2,), tuple(rows) + (None, []))

    def test_each_size(self):
        for sizes in sizes_of_all():
            most = tuple(size - 1 for size in sizes)
            self.tells((1, 1), share, seen_of_rows(sizes, [most]), most)
            for column in range(len(sizes)):
                row = most[:column] + (most[column] + 1,) + most[column + 1:]
                self.raises(BadRow, {"index": 0}, seen_of_rows, sizes, [row])


class Mixed(Checks):
    def test_one_column(self):
        one = weighed((2,), [(0,)], [1, 1])
        other = weighed((2,), [(0,)], [1, 3])
        self.tells(weighed((2,), [(0,)], [1, 2]), mixed, one, other, (1, 3))
        self.tells(weighed((2,), [(0,)], [5, 7]), mixed, one, other, (2, 3))

    def test_parts_0_and_1(self):
        one = uneven((2, 3), lots_of(2), 1)
        other = uneven((2, 3), [(0,), (0, 1)], 2)
        self.tells(other, mixed, one, other, (0, 1))
        self.tells(one, mixed, one, other, (1, 1))
        self.tells(one, mixed, other, one, (0, 1))

    def test_families_are_joined(self):
        one = uneven((2, 2), [(0,)], 1)
        other = uneven((2, 2), [(1,), (0, 1)], 2)
        told = mixed(one, other, (1, 4))
        self.assertEqual(family(told), [(0,), (0, 1), (1,)])
        self.assertEqual(patterns_alone(told)[0], ((0,), (1, 4)))

    def test_worked_out_another_way(self):
        for sizes in [(2,), (3, 2), (2, 2, 2), (2, 2, 2, 2)]:
            everything = lots_of(len(sizes))
            for ones, others in [(everything, everything), (everything[:1], everything[1:]), (everything[:2], everything)]:
                one = uneven(sizes, ones, 1)
                other = uneven(sizes, others, 2)
                for part in [(1, 2), (1, 7), (6, 7), (SIXTY - 1, SIXTY)]:
                    shares = []
                    for key in keys_of(sizes, everything):
                        own = Fraction(*share(one, key)) * Fraction(*part)
                        own += Fraction(*share(other, key)) * (1 - Fraction(*part))
                        shares += [(key, as_pair(own))] if own else []
                    self.tells(Whole(sizes, tuple(shares)), mixed, one, other, part)

    def test_hidden_is_mixed_likewise(self):
        one = uneven((2, 3), lots_of(2), 1)
        self.tells(hidden(one), hidden, mixed(one, one, (2, 5)))

    def test_other_sizes(self):
        one = bare_whole()
        self.raises(OtherSizes, {}, mixed, one, uneven((3,), [(0,)], 1), (1, 2))
        self.raises(OtherSizes, {}, mixed, uneven((2, 3), [()], 1), uneven((3, 2), [()], 1), (1, 2))
        self.raises(OtherSizes, {}, mixed, uneven((2, 2), [()], 1), one, (1, 2))

    def test_things_that_are_no_wholes_are_not_of_the_same_sizes(self):
        one = bare_whole()
        for thing in odd_things():
            if not isinstance(thing, Whole):
                self.raises(OtherSizes, {}, mixed, one, thing, (1, 2))
                self.raises(OtherSizes, {}, mixed, thing, one, (1, 2))

    def test_no_fraction_from_0_to_1(self):
        one = bare_whole()
        wrong = [fraction for fraction in WRONG_FRACTIONS if fraction != (0, 1)]
        wrong += [(3, 2), (-1, 2), (2, 1), (-1, 1), (0, 2), (2, 2), (0, -1), (SIXTY, SIXTY - 1), (False, 1), (0, True), 0, 1]
        for part in wrong + odd_things():
            self.raises(NoFraction, {}, mixed, one, one, part)
        for path, part in altered((1, 2)):
            self.raises(NoFraction, {}, mixed, one, one, part)

    def test_other_sizes_come_ahead_of_no_fraction(self):
        self.raises(OtherSizes, {}, mixed, bare_whole(), uneven((3,), [(0,)], 1), None)


if __name__ == "__main__":
    unittest.main()
