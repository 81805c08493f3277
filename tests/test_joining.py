"""Worths joined, and columns left out (11)."""

import itertools
import unittest
from fractions import Fraction

from calmblanks.calm import calm_whole, is_calm
from calmblanks.errors import LastColumn, NoColumn, NoLead, NotCalm
from calmblanks.joining import safe_leads, spoilt, without_column, worths_joined
from calmblanks.tables import Seen, Whole, contents_alone, hidden, mixed, patterns_alone, seen_of_rows
from tests.helper import (ROWS, SIXTY, Checks, altered, as_pair, bare_whole, closed_families, deep, lots_of,
                          odd_numbers, odd_things, sizes_of_all, tilted, uneven, weighed, woven)
from tests.test_calm import first_by_the_book
from tests.test_calm_whole import seen_weighed

SEEN = seen_of_rows((2, 2), ROWS)
# All leads for columns of two, three and four worths.
LEADS = {
    2: [(0, 1)],
    3: [(0, 0, 1), (0, 1, 0), (0, 1, 1), (0, 1, 2)],
    4: [(0, 0, 0, 1), (0, 0, 1, 0), (0, 0, 1, 1), (0, 0, 1, 2), (0, 1, 0, 0), (0, 1, 0, 1), (0, 1, 0, 2), (0, 1, 1, 0),
        (0, 1, 1, 1), (0, 1, 1, 2), (0, 1, 2, 0), (0, 1, 2, 1), (0, 1, 2, 2), (0, 1, 2, 3)],
}
SOME_SIZES = [(2,), (3,), (4,), (2, 3), (4, 4), (3, 2, 2), (4, 4, 4), (2, 2, 2, 2), (2, 2, 4, 4)]


def led(sizes, pairs, column, lead):
    """Pairs (key, fraction) with the keys led and their fractions summed up, by the test."""
    found = {}
    for key, fraction in pairs:
        worths = key[0] if isinstance(key[0], tuple) else key
        other = tuple(lead[worth] if place == column and worth != -1 else worth for place, worth in enumerate(worths))
        own = (other, key[1]) if isinstance(key[0], tuple) else other
        found[own] = found.get(own, 0) + Fraction(*fraction)
    new_sizes = tuple(len(set(lead)) if place == column else size for place, size in enumerate(sizes))
    return new_sizes, tuple((key, as_pair(found[key])) for key in sorted(found))


def left_out(sizes, pairs, column):
    found = {}
    columns = [place for place in range(len(sizes)) if place != column]
    for key, fraction in pairs:
        worths = key[0] if isinstance(key[0], tuple) else key
        own = tuple(worths[place] for place in columns)
        if isinstance(key[0], tuple):
            own = (own, tuple(columns.index(place) for place in key[1] if place != column))
        found[own] = found.get(own, 0) + Fraction(*fraction)
    return tuple(sizes[place] for place in columns), tuple((key, as_pair(found[key])) for key in sorted(found))


def is_calm_by_products(whole):
    """By products across: of each two contents that differ in one column alone, and two patterns of which one shows it more."""
    return first_by_the_book(whole) is None


class Joined(Checks):
    def test_by_hand(self):
        seen = seen_of_rows((3,), [(0,), (1,), (2,), (2,), (-1,)])
        self.tells(Seen((2,), (((-1,), (1, 5)), ((0,), (2, 5)), ((1,), (2, 5)))), worths_joined, seen, 0, (0, 0, 1))
        self.tells(Seen((2,), (((-1,), (1, 5)), ((0,), (3, 5)), ((1,), (1, 5)))), worths_joined, seen, 0, (0, 1, 0))
        self.tells(Seen((2,), (((-1,), (1, 5)), ((0,), (1, 5)), ((1,), (3, 5)))), worths_joined, seen, 0, (0, 1, 1))
        self.tells(seen, worths_joined, seen, 0, (0, 1, 2))
        whole = weighed((3,), [(), (0,)], [1, 2, 3, 4, 5, 6])
        answer = ((((0,), ()), (6, 21)), (((0,), (0,)), (8, 21)), (((1,), ()), (3, 21)), (((1,), (0,)), (4, 21)))
        answer = Whole((2,), tuple((key, as_pair(Fraction(*fraction))) for key, fraction in answer))
        self.tells(answer, worths_joined, whole, 0, (0, 1, 0))

    def test_one_of_two_columns_by_hand(self):
        seen = seen_of_rows((2, 3), [(0, 0), (0, 1), (0, 2), (1, -1), (-1, 2), (-1, 1), (-1, -1), (0, 2)])
        answer = (((-1, -1), (1, 8)), ((-1, 0), (1, 8)), ((-1, 1), (1, 8)), ((0, 0), (3, 8)), ((0, 1), (1, 8)),
                  ((1, -1), (1, 8)))
        self.tells(Seen((2, 2), answer), worths_joined, seen, 1, (0, 1, 0))

    def test_by_sums_of_the_test(self):
        for sizes in SOME_SIZES:
            families = [lots_of(len(sizes)), [(), tuple(range(len(sizes)))], [()], lots_of(len(sizes))[::3]]
            for own in families:
                whole = uneven(sizes, own, 3)
                seen = hidden(whole)
                for column in range(len(sizes)):
                    for lead in LEADS[sizes[column]][::1 if len(sizes) < 3 else 5]:
                        self.tells(Whole(*led(sizes, whole.shares, column, lead)), worths_joined, whole, column, lead)
                        self.tells(Seen(*led(sizes, seen.shares, column, lead)), worths_joined, seen, column, lead)

    def test_what_was_hidden_before_is_what_is_hidden_behind(self):
        for sizes in SOME_SIZES[:6]:
            whole = uneven(sizes, lots_of(len(sizes)), 1)
            for column, size in enumerate(sizes):
                for lead in LEADS[size]:
                    self.assertEqual(hidden(worths_joined(whole, column, lead)),
                                     worths_joined(hidden(whole), column, lead))

    def test_a_lead_that_joins_nothing_and_one_that_joins_all_to_two(self):
        whole = uneven((4, 3), lots_of(2), 1)
        self.tells(whole, worths_joined, whole, 0, (0, 1, 2, 3))
        self.tells(hidden(whole), worths_joined, hidden(whole), 1, (0, 1, 2))
        told = worths_joined(worths_joined(whole, 0, (0, 1, 1, 1)), 1, (0, 0, 1))
        self.assertEqual(told.sizes, (2, 2))
        rows = [(content, Fraction(*fraction)) for content, fraction in contents_alone(whole)]
        part = sum(fraction for content, fraction in rows if content[0] > 0 and content[1] < 2)
        self.assertEqual(dict(contents_alone(told))[1, 0], as_pair(part))
        self.assertEqual(patterns_alone(told), patterns_alone(whole))

    def test_tables_that_lack_views(self):
        seen = seen_of_rows((3, 2), [(2, 0), (-1, 1), (0, -1)])
        answer = (((-1, 1), (1, 3)), ((0, -1), (1, 3)), ((1, 0), (1, 3)))
        self.tells(Seen((2, 2), answer), worths_joined, seen, 0, (0, 0, 1))
        self.tells(seen_of_rows((2, 2), [(0, 0), (-1, 1), (0, -1)]), worths_joined, seen, 0, (0, 1, 0))

    def test_no_column(self):
        whole = uneven((3, 3), lots_of(2), 1)
        for table in (whole, hidden(whole)):
            for column in odd_numbers() + [2, 3, -2]:
                for lead in [(0, 0, 1), None, ()]:
                    self.raises(NoColumn, {}, worths_joined, table, column, lead)
        self.raises(NoColumn, {}, worths_joined, bare_whole(), 1, (0, 1))

    def test_no_lead(self):
        wrong = [(), (0,), (0, 0), (0, 0, 0), (0, 1), (1, 0, 0), (0, 2, 1), (0, 0, 2), (0, 2, 2), (1, 1, 0), (0, -1, 1),
                 (0, 1, 3), (-1, 0, 1),
                 (2, 1, 0), (1, 2, 3), (0, 0, 1, 1), (0, 1, 2, 3), [0, 0, 1], (0, True, 2), (False, 0, 1), (0, 1, True),
                 (0, 1, "2"),
                 (0, None, 1), (0, (1,), 1), (0, [1], 1), "001", b"\x00\x00\x01", {0: 0, 1: 0, 2: 1}, None, 3,
                 (0, SIXTY, 1),
                 (0, -SIXTY, 1), (0, {}, 1), range(3)]
        whole = uneven((3, 3), lots_of(2), 1)
        for table in (whole, hidden(whole)):
            for lead in wrong + odd_things():
                self.raises(NoLead, {}, worths_joined, table, 0, lead)
                self.raises(NoLead, {}, worths_joined, table, 1, lead)
            for _, lead in altered((0, 1, 1)):
                self.raises(NoLead, {}, worths_joined, table, 0, lead)
        for make in (lambda thing: (thing,), lambda thing: [thing], lambda thing: {0: thing}):
            self.raises(NoLead, {}, worths_joined, whole, 0, (0, deep(make, 39), 1))

    def test_all_leads_and_no_others(self):
        for size in (2, 3, 4):
            whole = uneven((size,), lots_of(1), 1)
            for many in (size - 1, size, size + 1):
                for lead in itertools.product(range(-1, 5), repeat=many):
                    if lead in LEADS[size]:
                        self.assertEqual(worths_joined(whole, 0, lead), Whole(*led((size,), whole.shares, 0, lead)))
                    else:
                        self.raises(NoLead, {}, worths_joined, whole, 0, lead)
        self.raises(NoLead, {}, worths_joined, bare_whole(), 0, (0, 0))
        self.raises(NoLead, {}, worths_joined, bare_whole(), 0, (1, 0))


class LeftOut(Checks):
    def test_by_hand(self):
        answer = (((-1,), (6, 20)), ((0,), (7, 20)), ((1,), (7, 20)))
        self.tells(Seen((2,), tuple((view, as_pair(Fraction(*fraction))) for view, fraction in answer)), without_column,
                   SEEN, 0)
        answer = (((-1,), (1, 4)), ((0,), (9, 20)), ((1,), (3, 10)))
        self.tells(Seen((2,), answer), without_column, SEEN, 1)
        whole = weighed((2, 2), [(0,), (0, 1)], [1, 2, 3, 4, 5, 6, 7, 8])
        answer = ((((0,), ()), (6, 36)), (((0,), (0,)), (8, 36)), (((1,), ()), (10, 36)), (((1,), (0,)), (12, 36)))
        answer = Whole((2,), tuple((key, as_pair(Fraction(*fraction))) for key, fraction in answer))
        self.tells(answer, without_column, whole, 0)
        answer = Whole((2,), ((((0,), (0,)), as_pair(Fraction(10, 36))), (((1,), (0,)), as_pair(Fraction(26, 36)))))
        self.tells(answer, without_column, whole, 1)

    def test_by_sums_of_the_test(self):
        for sizes in [(2, 2), (2, 3), (4, 4), (3, 2, 2), (4, 4, 4), (2, 2, 2, 2), (2, 2, 4, 4)]:
            for own in [lots_of(len(sizes)), [(), tuple(range(len(sizes)))], [()], [(0,), (1,)],
                        lots_of(len(sizes))[::3]]:
                whole = uneven(sizes, own, 2)
                seen = hidden(whole)
                for column in range(len(sizes)):
                    self.tells(Whole(*left_out(sizes, whole.shares, column)), without_column, whole, column)
                    self.tells(Seen(*left_out(sizes, seen.shares, column)), without_column, seen, column)

    def test_what_was_hidden_before_is_what_is_hidden_behind(self):
        for sizes in [(2, 2), (3, 2, 2), (2, 2, 2, 2)]:
            whole = uneven(sizes, lots_of(len(sizes)), 4)
            for column in range(len(sizes)):
                self.assertEqual(hidden(without_column(whole, column)), without_column(hidden(whole), column))

    def test_one_behind_another(self):
        whole = uneven((2, 3, 2, 2), lots_of(4), 1)
        for _ in range(3):
            whole = without_column(whole, 0)
        self.assertEqual(whole.sizes, (2,))
        self.assertEqual([key for key, _ in whole.shares], [((0,), ()), ((0,), (0,)), ((1,), ()), ((1,), (0,))])

    def test_tables_that_lack_views(self):
        seen = seen_of_rows((3, 2, 2), [(2, 0, -1), (-1, 1, 1), (0, 0, -1)])
        self.tells(seen_of_rows((2, 2), [(0, -1), (1, 1), (0, -1)]), without_column, seen, 0)
        self.tells(seen_of_rows((3, 2), [(2, -1), (-1, 1), (0, -1)]), without_column, seen, 1)

    def test_errors_and_their_order(self):
        for table in (uneven((2, 3), lots_of(2), 1), SEEN):
            for column in odd_numbers() + [2, 3, -2, SIXTY]:
                self.raises(NoColumn, {}, without_column, table, column)
        for table in (bare_whole(), hidden(bare_whole()), seen_of_rows((4,), [(-1,)])):
            self.raises(LastColumn, {}, without_column, table, 0)
            for column in odd_numbers() + [1, 2]:
                self.raises(NoColumn, {}, without_column, table, column)

    def test_numbers_of_any_size(self):
        whole = uneven((2, 2), lots_of(2), 1)
        for place in range(40):
            whole = mixed(whole, uneven((2, 2), lots_of(2), place), (SIXTY - 2, SIXTY))
        self.assertEqual(without_column(whole, 0), Whole(*left_out((2, 2), whole.shares, 0)))
        large = weighed((3, 2), lots_of(2), [SIXTY // 3, SIXTY // 7, 1, SIXTY])
        self.assertEqual(worths_joined(large, 0, (0, 1, 0)), Whole(*led((3, 2), large.shares, 0, (0, 1, 0))))


class Safe(Checks):
    def first_spoilt(self, whole, column, lead):
        wrong = first_by_the_book(Whole(*led(whole.sizes, whole.shares, column, lead)))
        return None if wrong is None else wrong[0]

    def test_by_products_across(self):
        for sizes in [(3,), (4,), (2, 3), (3, 2), (3, 3), (4, 2), (2, 3, 2)]:
            for place, own in enumerate(closed_families(len(sizes)) if len(sizes) < 3 else [lots_of(3),
                                                                                            lots_of(3)[1:]]):
                for whole in (woven(sizes, own, place + 1), weighed(sizes, own, [1])):
                    for column, size in enumerate(sizes):
                        told = {lead: self.first_spoilt(whole, column, lead) for lead in LEADS[size]}
                        for lead in LEADS[size]:
                            self.tells(told[lead], spoilt, whole, column, lead)
                        self.tells([lead for lead in LEADS[size] if told[lead] is None], safe_leads, whole, column)

    def test_of_many_worths(self):
        for sizes in [(4, 4), (2, 4, 2), (2, 2, 2, 4)]:
            whole = woven(sizes, lots_of(len(sizes)), 3)
            column = 1 if len(sizes) < 4 else 3
            self.tells([(0, 1, 2, 3)], safe_leads, whole, column)
            for lead in LEADS[4][::3]:
                self.tells(self.first_spoilt(whole, column, lead), spoilt, whole, column, lead)

    def test_the_fact_of_joining(self):
        for sizes in [(3,), (3, 3), (3, 2, 2)]:
            for own in closed_families(len(sizes))[::2]:
                for start in (1, 2):
                    whole = woven(sizes, own, start)
                    for column, size in enumerate(sizes):
                        for lead in LEADS[size]:
                            self.assertNotEqual(spoilt(whole, column, lead), column)

    def test_by_hand(self):
        # Column 1 is blank as column 0 says: as often as not for 0 and 1, twice as often for 2.
        whole = weighed((3, 2), [(0,), (0, 1)], [1, 1, 5, 5, 2, 2, 3, 3, 8, 4, 6, 3])
        self.assertTrue(is_calm_by_products(whole))
        self.tells(None, spoilt, whole, 0, (0, 0, 1))
        self.tells(1, spoilt, whole, 0, (0, 1, 1))
        self.tells(1, spoilt, whole, 0, (0, 1, 0))
        self.tells([(0, 0, 1), (0, 1, 2)], safe_leads, whole, 0)
        self.tells([(0, 1)], safe_leads, whole, 1)
        self.tells(None, spoilt, whole, 1, (0, 1))

    def test_the_least_column_that_is_spoilt(self):
        for sizes, column in [((2, 2, 3), 2), ((2, 3, 2), 1), ((3, 2, 2), 0)]:
            whole = woven(sizes, lots_of(3), 1)
            for lead in LEADS[3][:3]:
                self.tells(min(other for other in range(3) if other != column), spoilt, whole, column, lead)
                self.tells(self.first_spoilt(whole, column, lead), spoilt, whole, column, lead)

    def test_where_nothing_can_be_spoilt(self):
        for size in (3, 4):
            self.tells(LEADS[size], safe_leads, woven((size,), lots_of(1), 1), 0)
            self.tells(LEADS[size], safe_leads, uneven((size, 2), [(0, 1)], 1), 0)
            self.tells(LEADS[size], safe_leads, uneven((size, 2), [()], 1), 0)
            self.tells(LEADS[size], safe_leads, weighed((size, 2), lots_of(2), [1]), 0)

    def test_not_calm_comes_ahead(self):
        whole = uneven((2, 3), lots_of(2), 1)
        along = tilted((2, 3), [(0,), (0, 1)], (((1, 1), (1, 1)), ((1, 1), (2, 1), (3, 1))), 1)
        for column in odd_numbers()[::3] + [0, 1, 2]:
            for lead in [(0, 1), None, (0, 0, 1)]:
                self.raises(NotCalm, {"column": 0}, spoilt, whole, column, lead)
                self.raises(NotCalm, {"column": 1}, spoilt, along, column, lead)
            self.raises(NotCalm, {"column": 0}, safe_leads, whole, column)
            self.raises(NotCalm, {"column": 1}, safe_leads, along, column)

    def test_wrong_columns_and_leads(self):
        whole = woven((2, 3), lots_of(2), 1)
        for column in odd_numbers() + [2, 3, -2, SIXTY]:
            self.raises(NoColumn, {}, safe_leads, whole, column)
            for lead in [(0, 1), None, ()]:
                self.raises(NoColumn, {}, spoilt, whole, column, lead)
        for lead in [(0, 1), (0, 0, 0), (1, 0, 0), (0, 0, 2), [0, 0, 1], (0, True, 2), "001", None] + odd_things():
            self.raises(NoLead, {}, spoilt, whole, 1, lead)
        for lead in [(0, 0), (1, 0), (0, 1, 2)]:
            self.raises(NoLead, {}, spoilt, whole, 0, lead)

    def test_calm_wholes_of_seen_tables(self):
        whole = calm_whole(seen_weighed((3, 3), lots_of(2), [3, 1, 4, 1, 5, 9]))
        for column in (0, 1):
            for lead in LEADS[3]:
                joined = worths_joined(whole, column, lead)
                self.assertEqual(spoilt(whole, column, lead) is None, is_calm(joined))
                self.assertEqual(joined == calm_whole(hidden(joined)), is_calm(joined))

    def test_all_sizes(self):
        for sizes in sizes_of_all()[::7]:
            whole = woven(sizes, [tuple(range(len(sizes)))], 1)
            for column, size in enumerate(sizes):
                self.tells(LEADS[size], safe_leads, whole, column)

    def test_sixty_figures(self):
        whole = calm_whole(seen_weighed((3, 2), lots_of(2), [SIXTY // 3, SIXTY // 7, SIXTY - 10 ** 30, 1, SIXTY]))
        for lead in LEADS[3]:
            self.tells(self.first_spoilt(whole, 0, lead), spoilt, whole, 0, lead)


if __name__ == "__main__":
    unittest.main()
