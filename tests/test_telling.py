"""Webs that tell, twins, and wholes that are told (6)."""

import itertools
import unittest
from fractions import Fraction

from calmblanks.calm import calm_whole, is_calm
from calmblanks.errors import BadSizes, NotAll, NotFull, NotTold, NoTie, OtherColumns
from calmblanks.tables import Seen, Whole, hidden, mixed, seen_of_rows, share
from calmblanks.telling import are_twins, tells, told_whole, twins, twins_by
from calmblanks.webs import Web, is_fitting, product, tables_of, tied, ties
from tests.helper import (ROWS, SIXTY, Checks, altered, as_pair, bare_whole, cells, fitting, frozen, halves, keys_of,
                          lots_of, odd_things, picked_webs, shown, uneven, webs_of, weighed, woven)
from tests.test_contents import WRONG_SIZES
from tests.test_ties import columns_tied
from tests.test_webs import fullest

BARE = Web(1, ())
OWN = Web(1, ((0, 1),))
LED = Web(2, ((0, 3), (2, 3)))
CROSSED = Web(2, ((0, 3), (1, 2)))
SEEN = seen_of_rows((2, 2), ROWS)
# Of (content, pattern) as they ascend: ((0,), ()), ((0,), (0,)), ((1,), ()), ((1,), (0,)). Each is seen as often.
ONE = weighed((2,), lots_of(1), [1, 2, 3, 2])
OTHER = weighed((2,), lots_of(1), [3, 2, 1, 2])


def fits_by_sums(web, whole):
    """Whether the whole is the product of what its own sums tell of each thing, by Python's fractions."""
    rows = [(cells(key), Fraction(*fraction)) for key, fraction in whole.shares]
    told = {worths: Fraction(1) for worths, _ in rows}
    for thing in range(2 * web.columns):
        above = [tail for tail, head in web.arrows if head == thing]
        both, alone = {}, {}
        for worths, fraction in rows:
            ahead = tuple(worths[parent] for parent in above)
            both[ahead, worths[thing]] = both.get((ahead, worths[thing]), 0) + fraction
            alone[ahead] = alone.get(ahead, 0) + fraction
        for worths in told:
            ahead = tuple(worths[parent] for parent in above)
            told[worths] *= both[ahead, worths[thing]] / alone[ahead]
    return told == dict(rows)


def sums_by_view(whole):
    found = {}
    for (content, pattern), fraction in whole.shares:
        found[shown(content, pattern)] = found.get(shown(content, pattern), 0) + Fraction(*fraction)
    return found


def right_twins(web, sizes, pair):
    """As the document says it, by sums of the test's own."""
    if not isinstance(pair, tuple) or len(pair) != 2 or not all(isinstance(whole, Whole) for whole in pair):
        return False
    one, other = pair
    everything = keys_of(sizes, lots_of(len(sizes)))
    return (one.sizes == other.sizes == sizes and one.shares != other.shares
            and all([key for key, _ in whole.shares] == everything for whole in pair)
            and fits_by_sums(web, one) and fits_by_sums(web, other) and sums_by_view(one) == sums_by_view(other))


def some_sizes(columns):
    return {1: [(2,), (3,), (4,)], 2: [(2, 2), (2, 3), (4, 2)], 3: [(2, 2, 2), (2, 3, 2)], 4: [(2, 2, 2, 2)]}[columns]


def each_tie(columns):
    for column in range(columns):
        yield ((column, columns + column),)
        for other in range(columns):
            if other != column:
                yield ((column, columns + other), (columns + column, columns + other))


class Telling(Checks):
    def test_the_examples(self):
        self.tells(True, tells, CROSSED)
        self.tells(False, tells, OWN)
        self.tells(False, tells, LED)

    def test_no_arrows_and_all(self):
        for columns in (1, 2, 3, 4):
            self.tells(True, tells, Web(columns, ()))
            self.tells(False, tells, Web(columns, fullest(columns)))

    def test_one_arrow_of_a_tie_alone(self):
        self.tells(True, tells, Web(2, ((0, 3),)))
        self.tells(True, tells, Web(2, ((2, 3),)))
        self.tells(True, tells, Web(2, ((0, 3), (3, 2))))
        self.tells(False, tells, Web(2, ((0, 3), (1, 2), (2, 3))))
        self.tells(True, tells, Web(3, ((0, 4), (0, 5), (1, 3), (4, 5))))
        self.tells(False, tells, Web(3, ((0, 4), (0, 5), (1, 5), (4, 5))))

    def test_each_tie(self):
        for columns in (1, 2, 3, 4):
            for tie in each_tie(columns):
                self.tells(False, tells, Web(columns, tie))

    def test_all_webs(self):
        for web in webs_of(1) + webs_of(2) + picked_webs(3, 40) + picked_webs(4, 40):
            self.tells(columns_tied(web) == (), tells, web)
        # Three ways to join the columns; the blanks apart, with 4 ways to lead to them, or joined, with 2 for each way.
        self.assertEqual(len([web for web in webs_of(2) if tells(web)]), 3 * (4 + 2 + 2))


class Twins(Checks):
    def check(self, web, sizes, pair, arrows=()):
        self.assertTrue(right_twins(web, sizes, pair))
        self.tells(True, are_twins, web, sizes, pair)
        self.tells(True, are_twins, web, sizes, pair[::-1])
        if arrows:
            self.assertTrue(right_twins(Web(web.columns, arrows), sizes, pair))
            self.tells(True, are_twins, Web(web.columns, arrows), sizes, pair)

    def test_all_webs_of_one_and_two_columns(self):
        for web in webs_of(1) + webs_of(2):
            for sizes in some_sizes(web.columns):
                pair = twins(web, sizes)
                if columns_tied(web):
                    self.check(web, sizes, pair)
                else:
                    self.assertIsNone(pair)

    def test_three_and_four_columns(self):
        for web in picked_webs(3, 15) + picked_webs(4, 5):
            for sizes in some_sizes(web.columns):
                if columns_tied(web):
                    self.check(web, sizes, twins(web, sizes))
                else:
                    self.tells(None, twins, web, sizes)

    def test_each_kind_of_tie(self):
        for columns in (1, 2, 3, 4):
            for tie in each_tie(columns):
                for sizes in some_sizes(columns)[-1:]:
                    self.check(Web(columns, tie), sizes, twins(Web(columns, tie), sizes))
                    self.check(Web(columns, tie), sizes, twins_by(Web(columns, tie), sizes, tie))

    def test_by_each_tie_of_a_web(self):
        for web in webs_of(1) + webs_of(2) + picked_webs(3, 5) + [Web(3, fullest(3))]:
            for tie in ties(web):
                for sizes in some_sizes(web.columns)[:1]:
                    self.check(web, sizes, twins_by(web, sizes, tie), tie)

    def test_the_most_contents(self):
        for sizes, tie in [((4, 4, 4), ((1, 4),)), ((4, 2, 2, 4), ((3, 5), (7, 5))), ((2, 4, 4, 2), ((1, 7), (5, 7)))]:
            web = Web(len(sizes), tie)
            self.check(web, sizes, twins(web, sizes))
            self.check(web, sizes, twins_by(web, sizes, tie))

    def test_equal_calls_give_equal_answers(self):
        web = Web(2, fullest(2))
        self.assertEqual(frozen(twins(web, (2, 3))), frozen(twins(web, (2, 3))))
        for tie in ties(web):
            self.assertEqual(frozen(twins_by(web, (2, 3), tie)), frozen(twins_by(web, (2, 3), tie)))
        self.assertIs(twins(web, (2, 3)).__class__, tuple)

    def test_wrong_sizes_come_first(self):
        for sizes in WRONG_SIZES + odd_things():
            for web in (BARE, OWN, LED, Web(4, ())):
                self.raises(BadSizes, {}, twins, web, sizes)
                self.raises(BadSizes, {}, are_twins, web, sizes, None)
                self.raises(BadSizes, {}, twins_by, web, sizes, None)

    def test_other_columns(self):
        for web in (BARE, OWN, LED, CROSSED, Web(3, ()), Web(4, fullest(4))):
            for sizes in [(2,), (4, 4), (2, 2, 2), (2, 2, 2, 2)]:
                if len(sizes) != web.columns:
                    self.raises(OtherColumns, {}, twins, web, sizes)
                    self.raises(OtherColumns, {}, are_twins, web, sizes, (ONE, OTHER))
                    self.raises(OtherColumns, {}, twins_by, web, sizes, None)
                    self.raises(OtherColumns, {}, twins_by, web, sizes, ((0, 1),))


class NoTies(Checks):
    def test_what_is_no_tie(self):
        wrong = [(), ((0, 3),), ((2, 3),), ((2, 3), (0, 3)), ((0, 3), (2, 3), (2, 3)), ((1, 2), (3, 2)), ((0, 2),), (0, 3),
                 [(0, 3), (2, 3)], ([0, 3], [2, 3]), ((False, 3), (2, 3)), {(0, 3): 1, (2, 3): 1}, "0323", 0,
                 ((0, 3), (2, 3), ()), ((SIXTY, 3), (2, 3)), ((0, 3), (2, 3)) * 2]
        for tie in wrong + odd_things():
            self.raises(NoTie, {}, twins_by, LED, (2, 2), tie)
        for tie in wrong + odd_things() + [((0, 3), (2, 3)), ((0, 1),), ((False, True),), ((0, True),)]:
            self.raises(NoTie, {}, twins_by, CROSSED, (2, 2), tie)
        for tie in [((False, 1),), ((0, True),), ((0, 1),) * 2, ((1, 0),), (0, 1), ((0, 1), (0, 1))]:
            self.raises(NoTie, {}, twins_by, OWN, (2,), tie)

    def test_anything_within_of_another_kind(self):
        for _, tie in altered(((0, 3), (2, 3))):
            self.raises(NoTie, {}, twins_by, LED, (2, 2), tie)

    def test_a_web_that_tells_has_none(self):
        for web in [web for web in webs_of(1) + webs_of(2) if not ties(web)]:
            for tie in each_tie(web.columns):
                self.raises(NoTie, {}, twins_by, web, (2,) * web.columns, tie)


class AreTwins(Checks):
    def test_by_hand(self):
        self.assertTrue(right_twins(OWN, (2,), (ONE, OTHER)))
        self.tells(True, are_twins, OWN, (2,), (ONE, OTHER))
        self.tells(False, are_twins, BARE, (2,), (ONE, OTHER))

    def test_what_are_none(self):
        unlike = weighed((2,), lots_of(1), [1, 2, 4, 2])
        not_all = weighed((2,), [(0,)], [1, 2])
        three = weighed((3,), lots_of(1), [1, 2, 3, 2, 1, 2])
        for pair in [(ONE, ONE), (ONE, unlike), (ONE, not_all), (not_all, not_all), (ONE, three), (three, three),
                     [ONE, OTHER], (ONE,), (ONE, OTHER, OTHER), (OTHER,) * 3, (), ONE, {ONE.shares: OTHER}, (ONE, None),
                     (None, OTHER), (ONE, OTHER.shares), (ONE, (OTHER.sizes, OTHER.shares)), (hidden(ONE), hidden(OTHER)),
                     (ONE, hidden(OTHER)), ((ONE, OTHER),), (ONE, [OTHER]), (ONE, OWN)]:
            self.tells(False, are_twins, OWN, (2,), pair)
            self.assertFalse(right_twins(OWN, (2,), pair))

    def test_other_things(self):
        for thing in odd_things() + [0, 1, "", (halves(), halves()), (bare_whole(), bare_whole())]:
            self.tells(False, are_twins, OWN, (2,), thing)
            self.tells(False, are_twins, OWN, (2,), (thing, ONE))
            self.tells(False, are_twins, OWN, (2,), (ONE, thing))
            self.tells(False, are_twins, OWN, (2,), (thing, thing))

    def test_of_other_sizes(self):
        web = Web(2, ((0, 2),))
        pair = twins(web, (2, 3))
        self.tells(True, are_twins, web, (2, 3), pair)
        for sizes in [(3, 2), (2, 2), (4, 4)]:
            self.tells(False, are_twins, web, sizes, pair)

    def test_both_must_fit(self):
        web = Web(2, ((0, 1), (0, 2)))
        pair = twins(web, (2, 2))
        # With what hangs on everything mixed in, alike to both, they are hidden alike but do not fit.
        worse = tuple(mixed(whole, uneven((2, 2), lots_of(2), 1), (1, 2)) for whole in pair)
        self.assertEqual(hidden(worse[0]), hidden(worse[1]))
        for other in [worse, (pair[0], worse[1]), (worse[0], pair[1])]:
            self.tells(False, are_twins, web, (2, 2), other)
        self.tells(True, are_twins, Web(2, fullest(2)), (2, 2), worse)

    def test_webs_that_tell_have_none(self):
        calm = fitting(CROSSED, (2, 2), 1)
        for other in [calm, fitting(CROSSED, (2, 2), 2), uneven((2, 2), lots_of(2), 1)]:
            self.tells(False, are_twins, CROSSED, (2, 2), (calm, other))

    def test_twins_of_sixty_digits(self):
        one = weighed((2,), lots_of(1), [SIXTY, 2, SIXTY - 2, 3])
        other = weighed((2,), lots_of(1), [SIXTY - 1, 2, SIXTY - 1, 3])
        self.tells(True, are_twins, OWN, (2,), (one, other))
        self.tells(False, are_twins, OWN, (2,), (one, weighed((2,), lots_of(1), [SIXTY - 1, 2, SIXTY - 2, 3])))


class Told(Checks):
    def test_products_are_told_back(self):
        for place, web in enumerate([web for web in webs_of(1) + webs_of(2) if not columns_tied(web)]):
            for sizes in some_sizes(web.columns):
                whole = fitting(web, sizes, place + 1)
                self.tells(whole, told_whole, web, hidden(whole))

    def test_three_and_four_columns(self):
        some = [Web(3, ((0, 1), (0, 4), (1, 2), (2, 4), (4, 5))), Web(3, ((0, 4), (0, 5), (1, 3), (2, 3))), Web(3, ()),
                Web(3, ((0, 1), (0, 2), (1, 2), (3, 4), (4, 5))), Web(4, ((0, 1), (0, 6), (1, 4), (5, 7), (6, 5))),
                Web(4, ((0, 1), (0, 2), (0, 3), (1, 2), (1, 3), (2, 3), (4, 5), (4, 6), (4, 7), (5, 6), (5, 7), (6, 7)))]
        for place, web in enumerate(some):
            for sizes in some_sizes(web.columns):
                whole = fitting(web, sizes, place + 3)
                self.tells(whole, told_whole, web, hidden(whole))

    def test_the_most_contents(self):
        web = Web(3, ((0, 1), (0, 5), (2, 4), (4, 5)))
        whole = fitting(web, (4, 4, 4), 1)
        self.assertEqual(told_whole(web, hidden(whole)), whole)
        whole = fitting(Web(4, ((0, 5), (1, 4))), (2, 4, 2, 4), 1)
        self.assertEqual(told_whole(Web(4, ((0, 5), (1, 4))), hidden(whole)), whole)

    def test_by_hand(self):
        # A quarter is blank, of what is seen two thirds are 0; without an arrow so are the blank ones.
        seen = Seen((2,), (((-1,), (1, 4)), ((0,), (1, 2)), ((1,), (1, 4))))
        self.tells(weighed((2,), lots_of(1), [2, 6, 1, 3]), told_whole, BARE, seen)

    def test_tables_of_which_no_whole_fits(self):
        # In the examples' rows the blank of column 1 hangs on that of column 0, or the other way round.
        self.tells(None, told_whole, Web(2, ()), SEEN)
        self.tells(None, told_whole, CROSSED, SEEN)
        self.tells(None, told_whole, Web(2, ((0, 1),)), SEEN)
        self.tells(calm_whole(SEEN), told_whole, Web(2, ((0, 1), (2, 3))), SEEN)
        self.tells(calm_whole(SEEN), told_whole, Web(2, ((1, 0), (3, 2))), SEEN)

    def test_the_fact_of_what_could_be(self):
        for web in [web for web in webs_of(2) if not columns_tied(web)]:
            for whole in [woven((2, 2), lots_of(2), 1), uneven((2, 2), lots_of(2), 2), weighed((2, 2), lots_of(2), [1]),
                          fitting(CROSSED, (2, 2), 3), fitting(Web(2, ((0, 1), (0, 3))), (2, 2), 4)]:
                calm = calm_whole(hidden(whole))
                self.tells(calm if fits_by_sums(web, calm) else None, told_whole, web, hidden(whole))

    def test_the_fact_of_telling(self):
        for place, web in enumerate([web for web in webs_of(1) + webs_of(2) if not columns_tied(web)]):
            for sizes in some_sizes(web.columns):
                self.assertTrue(is_calm(fitting(web, sizes, place + 7)))
        for web in picked_webs(3, 40) + picked_webs(4, 40):
            if not columns_tied(web):
                self.assertTrue(is_calm(fitting(web, some_sizes(web.columns)[0], 5)))

    def test_sixty_digits(self):
        shares = (((-1,), (SIXTY - 5, SIXTY)), ((0,), (2, SIXTY)), ((1,), (3, SIXTY)))
        seen = Seen((2,), tuple((view, as_pair(Fraction(*fraction))) for view, fraction in shares))
        whole = told_whole(BARE, seen)
        self.tells(as_pair(Fraction(2 * (SIXTY - 5), 5 * SIXTY)), share, whole, ((0,), ()))
        parts = [as_pair(Fraction(part, SIXTY)) for part in (7, SIXTY - 11, 3 * 10 ** 40)]
        lines = [((), (part, (part[1] - part[0], part[1]))) for part in parts]
        tables = ((lines[0],), (((0,), lines[1][1]), ((1,), lines[2][1])), (lines[2],), (((0,), lines[0][1]), ((1,), lines[1][1])))
        web = Web(2, ((0, 1), (2, 3)))
        whole = product(web, (2, 2), tables)
        self.tells(whole, told_whole, web, hidden(whole))
        self.tells(None, told_whole, Web(2, ((0, 1),)), hidden(whole))

    def test_what_was_told_may_be_passed_on_whatever_its_size(self):
        whole = fitting(Web(2, ()), (2, 2), 1)
        for _ in range(60):
            whole = mixed(whole, fitting(Web(2, ()), (2, 2), 2), (SIXTY - 2, SIXTY))
        told = told_whole(Web(2, ()), hidden(product(Web(2, ()), (2, 2), tables_of(Web(2, ()), whole))))
        self.assertGreater(told.shares[0][1][1].bit_length(), 16000)
        self.assertEqual(frozen(told_whole(Web(2, ()), hidden(told))), frozen(told))
        self.tells(True, is_fitting, Web(2, ()), told)


class NotToldWholes(Checks):
    def test_errors_come_in_their_order(self):
        lack = seen_of_rows((2, 2), [row for row in ROWS if row != (0, 1)])
        part = seen_of_rows((2, 2), [(0, 0), (1, 1)])
        self.raises(OtherColumns, {}, told_whole, OWN, part)
        self.raises(NotTold, {"column": 0}, told_whole, LED, part)
        self.raises(NotTold, {"column": 0}, told_whole, LED, lack)
        self.raises(NotAll, {}, told_whole, CROSSED, part)
        self.raises(NotFull, {"view": (0, 1)}, told_whole, CROSSED, lack)

    def test_other_columns(self):
        for web in (BARE, OWN, Web(3, ()), Web(4, fullest(4))):
            self.raises(OtherColumns, {}, told_whole, web, SEEN)
        self.raises(OtherColumns, {}, told_whole, LED, halves())

    def test_the_least_tied_column(self):
        for columns in (1, 2, 3, 4):
            seen = hidden(woven((2,) * columns, lots_of(columns), 1))
            for tie in each_tie(columns):
                self.raises(NotTold, {"column": tie[0][0]}, told_whole, Web(columns, tie), seen)
        for web in webs_of(2):
            if tied(web):
                self.raises(NotTold, {"column": columns_tied(web)[0]}, told_whole, web, SEEN)
        self.raises(NotTold, {"column": 1}, told_whole, Web(3, ((1, 4), (2, 3), (5, 3))), hidden(uneven((2, 2, 2), [()], 1)))

    def test_not_all_patterns(self):
        for columns in (1, 2, 4):
            everything = lots_of(columns)
            for pattern in everything:
                for own in ([other for other in everything if other != pattern], [pattern]):
                    seen = hidden(woven((2,) * columns, own, 1))
                    self.raises(NotAll, {}, told_whole, Web(columns, ()), seen)

    def test_each_view_that_lacks(self):
        for sizes in [(4,), (2, 2), (2, 3), (2, 2, 2)]:
            views = [view for view, _ in hidden(woven(sizes, lots_of(len(sizes)), 1)).shares]
            for view in views:
                if set(view) != {-1}:
                    seen = seen_of_rows(sizes, [own for own in views if own != view])
                    self.raises(NotFull, {"view": view}, told_whole, Web(len(sizes), ()), seen)

    def test_the_least_view_that_lacks(self):
        views = sorted(set(ROWS))
        for lack in itertools.combinations(views[1:], 2):
            if lack not in [((-1, 0), (-1, 1)), ((0, -1), (1, -1))]:
                seen = seen_of_rows((2, 2), [view for view in views if view not in lack])
                self.raises(NotFull, {"view": min(lack)}, told_whole, CROSSED, seen)


if __name__ == "__main__":
    unittest.main()
