"""Webs that a seen table could be of (7)."""

import itertools
import unittest
from fractions import Fraction

from calmblanks.calm import calm_whole
from calmblanks.couldbe import all_webs, could_be, least_webs, sure_arrows, webs_that_could
from calmblanks.errors import NoNumber, NotAll, NotFull, NotTold, OtherColumns, TooMany
from calmblanks.tables import Seen, hidden, mixed, seen_of_rows
from calmblanks.telling import told_whole
from calmblanks.webs import Web
from tests.helper import (ROWS, SIXTY, Checks, as_pair, bare_whole, fitting, frozen, halves, lots_of, odd_numbers, uneven,
                          webs_of, weighed, woven)
from tests.test_calm_whole import seen_weighed
from tests.test_telling import fits_by_sums
from tests.test_ties import columns_tied
from tests.test_webs import fullest

CROSSED = Web(2, ((0, 3), (1, 2)))
LED = Web(2, ((0, 3), (2, 3)))
SEEN = seen_of_rows((2, 2), ROWS)
LISTS = (webs_that_could, least_webs, sure_arrows)


def could_by_the_book(seen):
    """All webs that tell and that the calm whole fits, fewest arrows first."""
    calm = calm_whole(seen)
    webs = [web for web in webs_of(len(seen.sizes)) if not columns_tied(web) and fits_by_sums(web, calm)]
    return sorted(webs, key=lambda web: (len(web.arrows), web.arrows))


def least_by_the_book(webs):
    return [web for web in webs if not any(set(other.arrows) < set(web.arrows) for other in webs)]


def some_tables():
    for place, web in enumerate([web for web in webs_of(2) if not columns_tied(web)]):
        yield hidden(fitting(web, (2, 2) if place % 2 else (3, 2), place + 1))
    for whole in [weighed((2, 2), lots_of(2), [1]), uneven((2, 2), lots_of(2), 1), woven((4, 4), lots_of(2), 1)]:
        yield hidden(whole)
    yield SEEN
    for size in (2, 3, 4):
        yield hidden(woven((size,), lots_of(1), size))


class AllWebs(Checks):
    def test_one_column(self):
        self.tells([Web(1, ()), Web(1, ((0, 1),))], all_webs, 1)

    def test_two_columns(self):
        answer = sorted(webs_of(2), key=lambda web: (len(web.arrows), web.arrows))
        self.tells(answer, all_webs, 2)
        self.assertEqual(len(answer), 144)
        told = all_webs(2)
        self.assertEqual([web.arrows for web in told[:4]], [(), ((0, 1),), ((0, 2),), ((0, 3),)])
        self.assertEqual([len(web.arrows) for web in told[-4:]], [6, 6, 6, 6])
        self.assertEqual(told[-4].arrows, fullest(2))

    def test_what_is_no_integer_from_1_to_2(self):
        for columns in odd_numbers() + [0, 3, 4, 5, -2, SIXTY, "1", "2", (2,), [1]]:
            self.raises(NoNumber, {}, all_webs, columns)


class CouldBe(Checks):
    def test_the_table_of_a_whole_that_fits(self):
        for place, web in enumerate([web for web in webs_of(1) + webs_of(2) if not columns_tied(web)]):
            sizes = (2, 3)[:web.columns]
            self.tells(True, could_be, web, hidden(fitting(web, sizes, place + 1)))

    def test_the_rows_of_the_examples(self):
        # What is blank hangs on no worth there, but the blanks and the columns hang on one another.
        for web in webs_of(2):
            if not columns_tied(web):
                joined = len([arrow for arrow in web.arrows if arrow in [(0, 1), (1, 0), (2, 3), (3, 2)]])
                self.tells(joined == 2, could_be, web, SEEN)

    def test_it_is_whether_a_whole_is_told(self):
        for seen in some_tables():
            for web in webs_of(len(seen.sizes))[::5]:
                if not columns_tied(web):
                    told = could_be(web, seen)
                    self.assertIs(told, told_whole(web, seen) is not None)
                    self.assertIs(told, fits_by_sums(web, calm_whole(seen)))

    def test_four_columns(self):
        seen = hidden(fitting(Web(4, ((0, 1), (0, 6), (4, 5))), (2, 2, 2, 2), 1))
        self.tells(True, could_be, Web(4, ((0, 1), (0, 6), (4, 5))), seen)
        self.tells(True, could_be, Web(4, ((0, 6), (1, 0), (2, 3), (5, 4))), seen)
        self.tells(False, could_be, Web(4, ((0, 6), (4, 5))), seen)
        self.tells(False, could_be, Web(4, ()), seen)

    def test_errors_come_in_their_order(self):
        lack = seen_of_rows((2, 2), [row for row in ROWS if row != (0, 1)])
        part = seen_of_rows((2, 2), [(0, 0), (1, 1)])
        for web in (Web(1, ((0, 1),)), Web(3, ()), Web(4, fullest(4))):
            self.raises(OtherColumns, {}, could_be, web, part)
        self.raises(NotTold, {"column": 0}, could_be, LED, part)
        self.raises(NotTold, {"column": 1}, could_be, Web(2, ((1, 3), (2, 3))), lack)
        self.raises(NotAll, {}, could_be, CROSSED, part)
        self.raises(NotFull, {"view": (0, 1)}, could_be, CROSSED, lack)


class Lists(Checks):
    def test_one_column(self):
        for size in (2, 3, 4):
            seen = hidden(woven((size,), lots_of(1), 1))
            self.tells([Web(1, ())], webs_that_could, seen)
            self.tells([Web(1, ())], least_webs, seen)
            self.tells([], sure_arrows, seen)

    def test_the_rows_of_the_examples(self):
        pairs = [((0, 1), (2, 3)), ((0, 1), (3, 2)), ((1, 0), (2, 3)), ((1, 0), (3, 2))]
        more = [((0, 1), (0, 3), (3, 2)), ((0, 1), (1, 2), (2, 3)), ((0, 3), (1, 0), (3, 2)), ((1, 0), (1, 2), (2, 3))]
        self.tells([Web(2, arrows) for arrows in pairs + more], webs_that_could, SEEN)
        self.tells([Web(2, arrows) for arrows in pairs], least_webs, SEEN)
        self.tells([], sure_arrows, SEEN)

    def test_an_even_table(self):
        seen = hidden(weighed((2, 2), lots_of(2), [1]))
        webs = [web for web in all_webs(2) if not columns_tied(web)]
        self.assertEqual(len(webs), 24)
        self.tells(webs, webs_that_could, seen)
        self.tells([Web(2, ())], least_webs, seen)
        self.tells([], sure_arrows, seen)

    def test_sure_arrows(self):
        # The columns are told apart by nothing, so only the arrows to the blanks are sure.
        seen = hidden(fitting(Web(2, ((0, 1), (0, 3), (1, 2))), (2, 2), 1))
        self.tells([Web(2, ((0, 1), (0, 3), (1, 2))), Web(2, ((0, 3), (1, 0), (1, 2)))], webs_that_could, seen)
        self.tells([(0, 3), (1, 2)], sure_arrows, seen)
        seen = hidden(fitting(CROSSED, (2, 2), 1))
        self.tells([CROSSED], least_webs, seen)
        self.tells([(0, 3), (1, 2)], sure_arrows, seen)
        seen = hidden(fitting(Web(2, ((1, 2), (2, 3))), (2, 3), 1))
        self.tells([(1, 2), (2, 3)], sure_arrows, seen)

    def test_a_table_of_which_no_web_could_be(self):
        for seen in [hidden(uneven((2, 2), lots_of(2), 1)), hidden(woven((2, 3), lots_of(2), 1))]:
            for function in LISTS:
                self.tells([], function, seen)

    def test_by_going_through_all_webs(self):
        for seen in some_tables():
            webs = could_by_the_book(seen)
            least = least_by_the_book(webs)
            self.tells(webs, webs_that_could, seen)
            self.tells(least, least_webs, seen)
            sure = sorted(set.intersection(*[set(web.arrows) for web in least])) if least else []
            self.tells(sure, sure_arrows, seen)

    def test_the_lists_are_new(self):
        for function in LISTS:
            seen = hidden(fitting(CROSSED, (2, 2), 1))
            before = frozen(function(seen))
            function(seen).clear()
            self.assertEqual(frozen(function(seen)), before)

    def test_sixty_digits(self):
        shares = (((-1,), (SIXTY - 5, SIXTY)), ((0,), (2, SIXTY)), ((1,), (3, SIXTY)))
        seen = Seen((2,), tuple((view, as_pair(Fraction(*fraction))) for view, fraction in shares))
        self.tells([Web(1, ())], webs_that_could, seen)
        seen = seen_weighed((2, 2), lots_of(2), [SIXTY, SIXTY - 1, 1, SIXTY // 7])
        self.tells(could_by_the_book(seen), webs_that_could, seen)
        whole = mixed(bare_whole(), bare_whole(), (SIXTY - 1, SIXTY))
        self.raises(NotAll, {}, webs_that_could, hidden(whole))

    def test_sixty_digits_where_some_could_be(self):
        # Each worth and each blank apart from the others: of the columns 1 / SIXTY are 0, and as many cells blank.
        parts = [Fraction(1, SIXTY), 1 - Fraction(1, SIXTY)]
        shares = {}
        for view in itertools.product((-1, 0, 1), repeat=2):
            told = Fraction(1)
            for worth in view:
                told *= parts[0] if worth == -1 else parts[1] * parts[worth]
            shares[view] = as_pair(told)
        seen = Seen((2, 2), tuple(sorted(shares.items())))
        self.tells([Web(2, ())], least_webs, seen)
        self.assertEqual(len(webs_that_could(seen)), 24)


class Errors(Checks):
    def test_too_many_columns_come_first(self):
        for columns in (3, 4):
            sizes = (2,) * columns
            whole = hidden(woven(sizes, lots_of(columns), 1))
            part = seen_of_rows(sizes, [(0,) * columns])
            for function in LISTS:
                self.raises(TooMany, {"most": 2}, function, whole)
                self.raises(TooMany, {"most": 2}, function, part)

    def test_not_all_comes_ahead_of_not_full(self):
        for function in LISTS:
            self.raises(NotAll, {}, function, halves())
            self.raises(NotAll, {}, function, seen_of_rows((2, 2), [(0, 1)]))
            self.raises(NotAll, {}, function, seen_of_rows((2,), [(0,)]))
            for pattern in lots_of(2):
                left = [other for other in lots_of(2) if other != pattern]
                self.raises(NotAll, {}, function, hidden(woven((2, 3), left, 1)))

    def test_the_least_view_that_lacks(self):
        for function in LISTS:
            for view in sorted(set(ROWS)):
                if view != (-1, -1):
                    seen = seen_of_rows((2, 2), [row for row in ROWS if row != view])
                    self.raises(NotFull, {"view": view}, function, seen)
            seen = seen_of_rows((2, 3), [(-1, -1), (0, -1), (-1, 1), (0, 2)])
            self.raises(NotFull, {"view": (-1, 0)}, function, seen)
            self.raises(NotFull, {"view": (1,)}, function, seen_of_rows((3,), [(-1,), (0,), (2,)]))


if __name__ == "__main__":
    unittest.main()
