"""The calm whole of a told seen table, and its quotients (3.2)."""

import itertools
import unittest
from fractions import Fraction

from calmblanks.calm import calm_part, calm_whole, is_calm, quotient, quotients
from calmblanks.errors import NoView, NotClosed, NotFull
from calmblanks.tables import (Seen, Whole, contents_alone, family, hidden, lacking, mixed, patterns_alone, seen_of_rows,
                               share)
from tests.helper import (ROWS, SIXTY, Checks, altered, as_pair, bare_whole, closed_families, frozen, keys_of, lots_of,
                          odd_things, uneven, woven)

SEEN = seen_of_rows((2, 2), ROWS)
# As many shares of views as there are: 0, 1 and blank.
ONE = Seen((2,), (((-1,), (1, 4)), ((0,), (1, 2)), ((1,), (1, 4))))
FUNCTIONS = (calm_whole, quotients)


def seen_weighed(sizes, own, weights):
    """The seen table with such weights, taken again and again, for the views by the patterns of a family."""
    views = sorted({tuple(worth if column in pattern else -1 for column, worth in enumerate(content))
                    for content, pattern in keys_of(sizes, own)})
    parts = [Fraction(weights[place % len(weights)]) for place in range(len(views))]
    return Seen(sizes, tuple((view, as_pair(part / sum(parts))) for view, part in zip(views, parts)))


def pattern_of(view):
    return tuple(column for column, worth in enumerate(view) if worth != -1)


def shown_by(view, content):
    return all(worth in (-1, own) for worth, own in zip(view, content))


def quotients_by_the_book(seen):
    """As the document says it, by Python's fractions."""
    shares = {view: Fraction(*fraction) for view, fraction in seen.shares}
    found = {}
    for view in sorted(shares, key=lambda view: -len(pattern_of(view))):
        total = Fraction(0)
        for content in itertools.product(*[range(size) for size in seen.sizes]):
            if shown_by(view, content):
                told = Fraction(1)
                for more in shares:
                    if shown_by(more, content) and set(pattern_of(view)) < set(pattern_of(more)):
                        told *= found[more]
                total += told
        found[view] = shares[view] / total
    return found


class ByHand(Checks):
    def test_one_column(self):
        self.tells((((-1,), (1, 3)), ((0,), (1, 2)), ((1,), (1, 4))), quotients, ONE)
        answer = ((((0,), ()), (1, 6)), (((0,), (0,)), (1, 2)), (((1,), ()), (1, 12)), (((1,), (0,)), (1, 4)))
        self.tells(Whole((2,), answer), calm_whole, ONE)

    def test_one_column_of_four_worths(self):
        seen = Seen((4,), (((-1,), (1, 3)), ((0,), (1, 6)), ((1,), (1, 12)), ((2,), (1, 4)), ((3,), (1, 6))))
        answer = []
        for worth, own in enumerate([(1, 6), (1, 12), (1, 4), (1, 6)]):
            answer += [(((worth,), ()), as_pair(Fraction(*own) / 2)), (((worth,), (0,)), own)]
        self.tells(Whole((4,), tuple(answer)), calm_whole, seen)
        self.tells((1, 2), quotient, seen, (-1,))
        self.tells((1, 4), quotient, seen, (2,))

    def test_nothing_blank(self):
        seen = hidden(bare_whole())
        self.tells(bare_whole(), calm_whole, seen)
        self.tells(seen.shares, quotients, seen)
        self.tells((1, 3), quotient, seen, (0,))

    def test_two_columns_of_which_one_is_blank_at_times(self):
        # Of those with column 0 a 0, a third is 0 in column 1; of those with a 1, three quarters.
        seen = Seen((2, 2), (((0, -1), (1, 4)), ((0, 0), (1, 24)), ((0, 1), (1, 12)),
                             ((1, -1), (1, 8)), ((1, 0), (3, 8)), ((1, 1), (1, 8))))
        answer = ((((0, 0), (0,)), (1, 12)), (((0, 0), (0, 1)), (1, 24)), (((0, 1), (0,)), (1, 6)), (((0, 1), (0, 1)), (1, 12)),
                  (((1, 0), (0,)), (3, 32)), (((1, 0), (0, 1)), (3, 8)), (((1, 1), (0,)), (1, 32)), (((1, 1), (0, 1)), (1, 8)))
        self.tells(Whole((2, 2), answer), calm_whole, seen)
        self.tells((2, 1), quotient, seen, (0, -1))
        self.tells((1, 4), quotient, seen, (1, -1))

    def test_the_examples(self):
        calm = calm_whole(SEEN)
        self.tells((((0, 0), (2, 5)), ((0, 1), (1, 5)), ((1, 0), (1, 10)), ((1, 1), (3, 10))), contents_alone, calm)
        told = (share(SEEN, (0, 0)), quotient(SEEN, (0, -1)), quotient(SEEN, (-1, 1)), quotient(SEEN, (-1, -1)))
        self.assertEqual(told, ((1, 5), (1, 2), (2, 5), (1, 2)))

    def test_the_rows_of_the_examples_by_hand(self):
        # Of all views but that in which all is blank: (0, -1) 3/20 by 6/20, (1, -1) 2/20 by 4/20, (-1, 0) 2/20 by 5/20,
        # (-1, 1) 2/20 by 5/20. Of all blank: 1/20 by 1/5 (4 + 2 + 1 + 3) / 20.
        answer = (((-1, -1), (1, 2)), ((-1, 0), (2, 5)), ((-1, 1), (2, 5)), ((0, -1), (1, 2)), ((0, 0), (1, 5)),
                  ((0, 1), (1, 10)), ((1, -1), (1, 2)), ((1, 0), (1, 20)), ((1, 1), (3, 20)))
        self.tells(answer, quotients, SEEN)
        calm = calm_whole(SEEN)
        self.tells((1, 50), share, calm, ((0, 0), ()))
        self.tells((1, 10), share, calm, ((0, 0), (0,)))
        self.tells((2, 25), share, calm, ((0, 0), (1,)))
        self.tells((1, 5), share, calm, ((0, 0), (0, 1)))
        self.tells((3, 200), share, calm, ((1, 1), ()))


class ToldBack(Checks):
    def test_all_closed_families_of_up_to_three_columns(self):
        for sizes in [(2,), (3,), (4,), (2, 2), (3, 2), (4, 4), (2, 2, 2), (2, 3, 2)]:
            for place, own in enumerate(closed_families(len(sizes))):
                whole = woven(sizes, own, place + 1)
                self.tells(whole, calm_whole, hidden(whole))

    def test_four_columns_and_sizes_with_the_product_64(self):
        for sizes in [(2, 2, 2, 2), (2, 2, 4, 4), (4, 4, 4)]:
            everything = lots_of(len(sizes))
            with_all = [pattern for pattern in everything if len(pattern) == len(sizes)]
            one_blank = [pattern for pattern in everything if len(pattern) >= len(sizes) - 1]
            for own in (everything, everything[1:], with_all, one_blank):
                whole = woven(sizes, own, 7)
                self.tells(whole, calm_whole, hidden(whole))

    def test_the_main_fact(self):
        for sizes in [(2,), (4,), (2, 3), (2, 2, 2), (3, 2, 4), (2, 2, 2, 2)]:
            for start, weights in [(1, [1]), (2, [5, 1, 9, 2, 3, 7, 8]), (3, [1, 1000, 3])]:
                families = closed_families(len(sizes)) if len(sizes) < 4 else [lots_of(4), lots_of(4)[1:]]
                own = families[-start % len(families)]
                seen = seen_weighed(sizes, own, weights)
                whole = calm_whole(seen)
                self.assertEqual(hidden(whole), seen)
                self.assertIs(is_calm(whole), True)
                self.assertEqual(family(whole), own)
                self.assertEqual(patterns_alone(whole), patterns_alone(seen))

    def test_quotients_by_the_book(self):
        for sizes in [(2,), (4,), (2, 3), (4, 4), (2, 3, 2), (2, 2, 2, 2)]:
            families = closed_families(len(sizes)) if len(sizes) < 4 else [lots_of(4), lots_of(4)[1:]]
            for own in families:
                seen = seen_weighed(sizes, own, [3, 1, 4, 1, 5, 9, 2, 6, 5, 35, 8])
                told = quotients_by_the_book(seen)
                self.tells(tuple((view, as_pair(told[view])) for view in sorted(told)), quotients, seen)
                for view in told:
                    self.assertEqual(quotient(seen, view), as_pair(told[view]))

    def test_the_whole_is_the_product_of_its_quotients(self):
        for sizes in [(3,), (2, 4), (2, 2, 3)]:
            seen = seen_weighed(sizes, lots_of(len(sizes)), [2, 7, 1, 8, 2, 8, 1, 8])
            told = {view: Fraction(*fraction) for view, fraction in quotients(seen)}
            for (content, pattern), fraction in calm_whole(seen).shares:
                own = Fraction(1)
                for view in told:
                    if shown_by(view, content) and set(pattern) <= set(pattern_of(view)):
                        own *= told[view]
                self.assertEqual(as_pair(own), fraction)


class CalmPart(Checks):
    def test_of_a_calm_whole(self):
        for sizes in [(2,), (4,), (2, 3), (2, 2, 2), (2, 2, 2, 2)]:
            whole = woven(sizes, lots_of(len(sizes)), 3)
            self.tells(whole, calm_part, whole)

    def test_of_one_that_is_not(self):
        for sizes in [(2,), (2, 3), (2, 2, 2)]:
            whole = uneven(sizes, lots_of(len(sizes)), 3)
            self.assertFalse(is_calm(whole))
            told = calm_part(whole)
            self.assertTrue(is_calm(told))
            self.assertEqual(hidden(told), hidden(whole))
            self.tells(calm_whole(hidden(whole)), calm_part, whole)

    def test_of_a_mean_of_two(self):
        one = woven((2, 2), lots_of(2), 1)
        other = woven((2, 2), lots_of(2), 2)
        whole = mixed(one, other, (1, 3))
        self.tells(calm_whole(hidden(whole)), calm_part, whole)

    def test_of_one_whose_family_is_not_closed(self):
        for own, pattern in [([()], (0,)), ([(), (0, 1)], (0,)), ([(0,)], (0, 1)), ([(), (1,)], (0,))]:
            self.raises(NotClosed, {"pattern": pattern}, calm_part, uneven((2, 2), own, 1))
        self.raises(NotClosed, {"pattern": (0,)}, calm_part, uneven((2,), [()], 1))


class NotTold(Checks):
    def not_told(self, error, fields, seen):
        for function in FUNCTIONS:
            self.raises(error, fields, function, seen)
        for thing in (seen.shares[0][0], (9,), None):
            self.raises(error, fields, quotient, seen, thing)

    def test_tables_that_lack_one_view(self):
        for sizes in [(2,), (4,), (2, 3), (2, 2, 2)]:
            views = [view for view, _ in hidden(woven(sizes, lots_of(len(sizes)), 1)).shares]
            for view in views:
                seen = seen_of_rows(sizes, [own for own in views if own != view])
                if lacking(seen):
                    self.not_told(NotFull, {"view": view}, seen)

    def test_the_least_view_that_lacks(self):
        for views in itertools.combinations(sorted(set(ROWS)), 2):
            seen = seen_of_rows((2, 2), [row for row in ROWS if row not in views])
            if set(views) != {(-1, 0), (-1, 1)} and set(views) != {(0, -1), (1, -1)} and (-1, -1) not in views:
                self.not_told(NotFull, {"view": min(views)}, seen)
        self.not_told(NotFull, {"view": (0, 0)}, seen_of_rows((2, 2), [(1, 1)]))
        self.not_told(NotFull, {"view": (-1, 1)}, seen_of_rows((2, 2), [(1, 1), (-1, 0)]))
        self.not_told(NotFull, {"view": (1,)}, seen_of_rows((2,), [(0,), (-1,)]))

    def test_the_least_pattern_that_lacks(self):
        for columns in (1, 2, 3):
            patterns = lots_of(columns)
            closed = closed_families(columns)
            for many in range(1, len(patterns) + 1):
                for own in itertools.combinations(patterns, many):
                    lack = [pattern for pattern in patterns if pattern not in own
                            and any(set(less) < set(pattern) for less in own)]
                    seen = hidden(woven((2,) * columns, list(own), 1))
                    self.assertEqual(list(own) in closed, not lack)
                    if lack:
                        self.not_told(NotClosed, {"pattern": min(lack)}, seen)

    def test_families_without_the_pattern_that_shows_all(self):
        self.not_told(NotClosed, {"pattern": (0,)}, Seen((2,), (((-1,), (1, 1)),)))
        self.not_told(NotClosed, {"pattern": (0, 1, 2, 3)}, hidden(woven((2, 2, 2, 2), [(1, 2, 3)], 1)))
        self.not_told(NotClosed, {"pattern": (0,)}, hidden(woven((2, 2, 2, 2), lots_of(4)[:1], 1)))
        everything = [pattern for pattern in lots_of(4) if len(pattern) < 4]
        self.not_told(NotClosed, {"pattern": (0, 1, 2, 3)}, hidden(woven((2, 2, 2, 2), everything, 1)))

    def test_the_least_as_tuples_are_ordered(self):
        # (0, 1, 2) is ahead of (0, 2), though it shows more.
        self.not_told(NotClosed, {"pattern": (0, 1, 2)}, hidden(woven((2, 2, 2), [(0, 1), (2,)], 1)))
        self.not_told(NotClosed, {"pattern": (0, 2)}, hidden(woven((2, 2, 2), [(0, 1), (0, 1, 2), (2,)], 1)))

    def test_not_full_comes_ahead_of_not_closed(self):
        self.not_told(NotFull, {"view": (-1, 1)}, seen_of_rows((2, 2), [(-1, 0)]))
        self.not_told(NotFull, {"view": (1, -1)}, seen_of_rows((2, 2), [(0, -1), (-1, -1)]))


class Quotient(Checks):
    def test_no_view(self):
        wrong = [(), (0,), (0, 0, 0), (2, 0), (0, -2), (True, 0), (0, False), [0, 0], "00", (0, None), ((0,), 0), (SIXTY, 0), 0]
        for view in wrong + odd_things():
            self.raises(NoView, {}, quotient, SEEN, view)
        for _, view in altered((0, -1)):
            self.raises(NoView, {}, quotient, SEEN, view)

    def test_no_view_by_a_pattern_of_the_family(self):
        for own in closed_families(2):
            seen = hidden(woven((2, 3), own, 1))
            for view in itertools.product((-1, 0, 1), (-1, 0, 1, 2)):
                if pattern_of(view) in own:
                    self.assertEqual(quotient(seen, view), dict(quotients(seen))[view])
                else:
                    self.raises(NoView, {}, quotient, seen, view)

    def test_not_told_comes_ahead_of_no_view(self):
        for view in odd_things():
            self.raises(NotFull, {"view": (1,)}, quotient, seen_of_rows((2,), [(0,)]), view)
            self.raises(NotClosed, {"pattern": (0,)}, quotient, seen_of_rows((2,), [(-1,)]), view)


class LargeNumbers(Checks):
    def test_sixty_digits(self):
        shares = (((-1,), (SIXTY - 5, SIXTY)), ((0,), (2, SIXTY)), ((1,), (3, SIXTY)))
        seen = Seen((2,), tuple((view, as_pair(Fraction(*fraction))) for view, fraction in shares))
        whole = calm_whole(seen)
        self.tells(as_pair(Fraction(2 * (SIXTY - 5), 5 * SIXTY)), share, whole, ((0,), ()))
        self.tells(as_pair(Fraction(SIXTY - 5, 5)), quotient, seen, (-1,))
        for sizes in [(2, 2), (4, 4), (2, 2, 2)]:
            weights = [SIXTY // 3, SIXTY // 7, SIXTY // 11, SIXTY - 10 ** 30, 1, SIXTY]
            seen = seen_weighed(sizes, lots_of(len(sizes)), weights)
            whole = calm_whole(seen)
            self.assertTrue(is_calm(whole))
            self.assertEqual(hidden(whole), seen)
            told = quotients_by_the_book(seen)
            self.assertEqual(quotients(seen), tuple((view, as_pair(told[view])) for view in sorted(told)))

    def test_sixty_digits_and_four_columns(self):
        seen = seen_weighed((2, 2, 2, 2), lots_of(4), [SIXTY // 3, SIXTY // 7, SIXTY - 10 ** 30, 1, SIXTY])
        whole = calm_whole(seen)
        self.assertGreater(max(bottom for _, (_, bottom) in whole.shares).bit_length(), 15000)
        self.assertTrue(is_calm(whole))
        self.assertEqual(hidden(whole), seen)
        self.assertEqual(frozen(calm_part(whole)), frozen(whole))

    def test_what_was_told_may_be_passed_on_whatever_its_size(self):
        whole = calm_whole(ONE)
        for _ in range(90):
            whole = mixed(whole, woven((2,), lots_of(1), 5), (SIXTY - 2, SIXTY))
        self.assertGreater(whole.shares[0][1][1].bit_length(), 16000)
        told = calm_part(whole)
        self.assertEqual(hidden(told), hidden(whole))
        self.assertTrue(is_calm(told))
        self.assertEqual(quotient(hidden(whole), (0,)), share(whole, ((0,), (0,))))


if __name__ == "__main__":
    unittest.main()
