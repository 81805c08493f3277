"""Strangers' fillings, and draws (12)."""

import itertools
import random
import unittest
from fractions import Fraction

from calmblanks.calm import calm_whole
from calmblanks.errors import BadFilling, BadSizes, BadText, BadThrow, NoNumber, NotClosed, NotFull
from calmblanks.strangers import drawn, even_draws, filled, proportional, refuted
from calmblanks.tables import Seen, Whole, hidden, mixed, seen_of_rows
from tests.helper import (ROWS, SIXTY, Checks, as_pair, bare_whole, closed_families, deep, frozen, halves, keys_of,
                          lots_of,
                          odd_numbers, odd_things, shown, sizes_of_all, uneven, weighed, woven)
from tests.test_calm_whole import pattern_of, seen_weighed, shown_by
from tests.test_contents import WRONG_SIZES

SEEN = seen_of_rows((2, 2), ROWS)
# What is no filling of the view (0, -1).
WRONG_FILLINGS = [
    None, 0, (), [], {}, "", {(0, 0): (1, 1)}, {(0, 0): (1, 2)}, {(0, 0): (1, 2), (1, 1): (1, 2)},
    {(0, 0): (1, 2), (1, 0): (1, 2)},
    {(0, 0): (1, 2), (0, 1): (1, 3)}, {(0, 0): (1, 2), (0, 1): (2, 3)}, {(0, 0): (2, 4), (0, 1): (2, 4)},
    {(0, 0): (1, 1), (0, 1): (0, 1)},
    {(0, 0): (3, 2), (0, 1): (-1, 2)}, {(0, 0): (1, 2), (0, 1): (1, 2), (1, 0): (1, 2)},
    {(0, 0): (1, 3), (0, 1): (1, 3), (1, 1): (1, 3)},
    {(0, 0): (1, 2), (0, 1): (1, 2), 0: 0}, {(False, 0): (1, 2), (0, 1): (1, 2)},
    {(0, False): (1, 2), (0, True): (1, 2)},
    {(0, 0): (1, 2), (0, 1): [1, 2]}, {(0, 0): (True, 2), (0, 1): (1, 2)}, {(0, 0): (1, 2), (0, 1): None},
    {(0, 0): (1, 2), (0, -1): (1, 2)},
    {(0, 0): (1, 2), (0, 2): (1, 2)}, {"00": (1, 2), "01": (1, 2)}, {(0,): (1, 2), (1,): (1, 2)},
    {((0, 0), (0,)): (1, 2), ((0, 1), (0,)): (1, 2)},
    [((0, 0), (1, 2)), ((0, 1), (1, 2))], (((0, 0), (1, 2)), ((0, 1), (1, 2))), {(0, 0): (1, -2), (0, 1): (3, 2)},
    {(0, 0): (1, 2, 3), (0, 1): (1, 2)},
    {(0, 0): (1, 0), (0, 1): (1, 2)}, {0: (1, 2), 1: (1, 2)}, {b"": (1, 2), None: (1, 2)},
    {(0, 0): {1: 2}, (0, 1): (1, 2)}, {(0, 0): 1, (0, 1): 1},
]


class Mine(Exception):
    """An error of a filler's own."""


def contents_of(sizes, view):
    return [content for content in itertools.product(*[range(size) for size in sizes]) if shown_by(view, content)]


def even_filler(sizes):
    return lambda view: {content: (1, len(contents_of(sizes, view))) for content in contents_of(sizes, view)}


def drawn_filler(sizes, start):
    """A filler of drawn numbers, the same to equal views, that gives its dicts in any order."""
    def filler(view):
        dice = random.Random(f"{start} {view}")
        contents = contents_of(sizes, view)
        dice.shuffle(contents)
        weights = [dice.randrange(1, 100) for _ in contents]
        return {content: as_pair(Fraction(weight, sum(weights))) for content, weight in zip(contents, weights)}
    return filler


def noted(filler):
    """The filler, and the list of the views that it is called with."""
    calls = []

    def other(view):
        calls.append(view)
        return filler(view)
    return other, calls


def wrong_at(sizes, filling):
    """A filler that is wrong for some views alone."""
    even = even_filler(sizes)
    return lambda view: filling[view] if view in filling else even(view)


def filled_by_the_book(seen, filler):
    shares = []
    for view, fraction in seen.shares:
        parts = filler(view) if -1 in view else {view: (1, 1)}
        shares += [((content, pattern_of(view)),
                    as_pair(Fraction(*fraction) * Fraction(*parts[content]))) for content in parts]
    return Whole(seen.sizes, tuple(sorted(shares)))


def proportional_by_the_book(seen):
    shares = {view: Fraction(*fraction) for view, fraction in seen.shares}

    def filler(view):
        contents = contents_of(seen.sizes, view)
        return {content: as_pair(shares[content] / sum(shares[other] for other in contents)) for content in contents}
    return filled_by_the_book(seen, filler)


def all_views(sizes):
    return sorted({shown(content, pattern) for content, pattern in keys_of(sizes, lots_of(len(sizes)))})


def met_by(whole, throw):
    """The view that a throw meets, by running sums."""
    total = Fraction(0)
    for (content, pattern), fraction in whole.shares:
        total += Fraction(*fraction)
        if total > Fraction(*throw):
            return shown(content, pattern)


class Filled(Checks):
    def test_by_hand(self):
        seen = Seen((2,), (((-1,), (1, 4)), ((0,), (1, 2)), ((1,), (1, 4))))
        answer = ((((0,), ()), (1, 12)), (((0,), (0,)), (1, 2)), (((1,), ()), (1, 6)), (((1,), (0,)), (1, 4)))
        self.tells(Whole((2,), answer), filled, seen, lambda view: {(1,): (2, 3), (0,): (1, 3)})

    def test_by_products_of_the_test(self):
        for sizes in [(2,), (4,), (2, 3), (4, 4), (2, 3, 2), (2, 2, 2, 2), (4, 4, 4)]:
            for own in [lots_of(len(sizes)), [()], [tuple(range(len(sizes)))], lots_of(len(sizes))[::2]]:
                seen = seen_weighed(sizes, own, [3, 1, 4, 1, 5, 9, 2, 6])
                for filler in (even_filler(sizes), drawn_filler(sizes, 1)):
                    whole = filled_by_the_book(seen, filler)
                    self.tells(whole, filled, seen, filler)
                    self.assertEqual(hidden(whole), seen)

    def test_the_views_that_it_is_called_with(self):
        for own in [lots_of(2), [()], [(0, 1)], [(0,), (0, 1)]]:
            seen = seen_weighed((2, 3), own, [1, 2, 3])
            filler, calls = noted(even_filler((2, 3)))
            filled(seen, filler)
            self.assertEqual(sorted(set(calls)), [view for view, _ in seen.shares if -1 in view])

    def test_a_filler_that_gives_the_same_dict_each_time(self):
        own = {}

        def filler(view):
            own.clear()
            own.update(drawn_filler((2, 2), 1)(view))
            return own
        self.assertEqual(filled(SEEN, filler), filled_by_the_book(SEEN, drawn_filler((2, 2), 1)))

    def test_what_a_filler_gives_is_not_changed(self):
        given = {view: drawn_filler((2, 2), 2)(view) for view in all_views((2, 2))}
        before = frozen(given)
        filled(SEEN, lambda view: given[view])
        refuted(lambda view: given[view], (2, 2))
        self.assertEqual(frozen(given), before)

    def test_tables_that_lack_views(self):
        for filler in (even_filler((2, 2)), lambda view: None):
            self.raises(NotFull, {"view": (-1, 1)}, filled, seen_of_rows((2, 2), [(-1, 0)]), filler)
            self.raises(NotFull, {"view": (0, 0)}, filled, seen_of_rows((2, 2), [(1, 1), (0, -1), (1, -1)]), filler)
            self.raises(NotFull, {"view": (0,)}, filled, seen_of_rows((2,), [(1,)]), filler)
        filler, calls = noted(even_filler((2,)))
        self.raises(NotFull, {"view": (0,)}, filled, seen_of_rows((2,), [(1,), (-1,)]), filler)
        self.assertEqual(calls, [])

    def test_families_that_are_not_closed(self):
        seen = seen_of_rows((2, 2), [(-1, -1)])
        self.tells(weighed((2, 2), [()], [1]), filled, seen, even_filler((2, 2)))

    def test_bad_fillings(self):
        for filling in WRONG_FILLINGS + odd_things():
            self.raises(BadFilling, {"view": (0, -1)}, filled, SEEN, wrong_at((2, 2), {(0, -1): filling}))
            self.raises(BadFilling, {"view": (0, -1)}, refuted, wrong_at((2, 2), {(0, -1): filling}), (2, 2))
        for thing in odd_things():
            filling = {(0, 0): (1, 2), (0, 1): thing}
            self.raises(BadFilling, {"view": (0, -1)}, filled, SEEN, wrong_at((2, 2), {(0, -1): filling}))
            self.raises(BadFilling, {"view": (0, -1)}, filled, SEEN,
                        wrong_at((2, 2), {(0, -1): {(0, 0): (1, 2), (0, 1): (thing, 2)}}))
        for make in (lambda thing: (thing,), lambda thing: [thing], lambda thing: {0: thing}):
            filling = {(0, 0): (1, 2), (0, 1): deep(make, 38)}
            self.raises(BadFilling, {"view": (0, -1)}, filled, SEEN, wrong_at((2, 2), {(0, -1): filling}))
        self.raises(BadFilling, {"view": (-1, -1)}, filled, SEEN,
                    lambda view: {number: (1, 2) for number in range(9000)})

    def test_the_least_view(self):
        blanks = [view for view, _ in SEEN.shares if -1 in view]
        for view in blanks:
            self.raises(BadFilling, {"view": view}, filled, SEEN, wrong_at((2, 2), {view: None}))
        for some in itertools.combinations(blanks, 2):
            self.raises(BadFilling, {"view": min(some)}, filled, SEEN, wrong_at((2, 2), {view: {} for view in some}))
        # Views that the table has not are not asked for.
        seen = seen_of_rows((2, 2), [(0, 0), (0, 1), (1, 0), (1, 1), (0, -1), (1, -1)])
        self.assertEqual(hidden(filled(seen, wrong_at((2, 2), {(-1, 0): None, (-1, -1): None}))), seen)
        self.raises(BadFilling, {"view": (1, -1)}, filled, seen, wrong_at((2, 2), {(-1, 0): None, (1, -1): None}))
        self.assertEqual(filled(hidden(bare_whole()), lambda view: None), bare_whole())

    def test_its_own_errors_go_on(self):
        for error in (Mine("mine"), ValueError("mine"), KeyError(1), ZeroDivisionError(), BadText(7), NotFull((0,)),
                      RuntimeError()):
            def filler(view):
                if view == (0, -1):
                    raise error
                return even_filler((2, 2))(view)
            for call in (lambda: filled(SEEN, filler), lambda: refuted(filler, (2, 2))):
                try:
                    call()
                except Exception as caught:
                    self.assertIs(caught, error)
                else:
                    self.fail("the filler's own error did not go on")

    def test_numbers_of_any_size(self):
        parts = {(0,): as_pair(Fraction(SIXTY - 1, SIXTY)), (1,): as_pair(Fraction(1, SIXTY))}
        seen = seen_weighed((2,), lots_of(1), [SIXTY // 3, SIXTY // 7, 1])
        self.tells(filled_by_the_book(seen, lambda view: parts), filled, seen, lambda view: parts)
        whole = weighed((2,), [(0,)], [1, 4])
        for place in range(90):
            whole = mixed(whole, bare_whole(), (SIXTY - 2, SIXTY))
        large = {content: fraction for (content, _), fraction in whole.shares}
        self.assertGreater(large[0,][1].bit_length(), 16000)
        self.assertEqual(filled(seen, lambda view: large), filled_by_the_book(seen, lambda view: large))


class Proportional(Checks):
    def test_by_hand(self):
        whole = proportional(SEEN)
        # 4, 2, 1, 3 rows without a blank: of 0- 3 are parted as 4 to 2, of -1 2 as 2 to 3, of -- one as 4 to 2 to 1 to 3.
        shares = dict(whole.shares)
        self.assertEqual([shares[(0, 0), (0,)], shares[(0, 1), (0,)]], [(1, 10), (1, 20)])
        self.assertEqual([shares[(0, 1), (1,)], shares[(1, 1), (1,)]], [(1, 25), (3, 50)])
        self.assertEqual([shares[content, ()] for content in [(0, 0), (0, 1), (1, 0), (1, 1)]],
                         [(1, 50), (1, 100), (1, 200), (3, 200)])
        self.assertEqual(hidden(whole), SEEN)

    def test_by_the_book(self):
        for sizes in [(2,), (4,), (2, 3), (2, 2, 2), (2, 2, 2, 2), (4, 4, 4)]:
            for own in closed_families(len(sizes))[:8] if len(sizes) < 3 else [lots_of(len(sizes)),
                                                                               lots_of(len(sizes))[1:]]:
                seen = seen_weighed(sizes, own, [3, 1, 4, 1, 5, 9, 2, 6])
                self.tells(proportional_by_the_book(seen), proportional, seen)
                # Of one column the calm whole parts so, too.
                self.assertEqual(proportional(seen) == calm_whole(seen),
                                 len(sizes) == 1 or proportional_by_the_book(seen) == calm_whole(seen))

    def test_one_column_is_parted_so_in_the_calm_whole(self):
        seen = seen_weighed((3,), lots_of(1), [SIXTY // 3, SIXTY // 7, 1, SIXTY])
        self.tells(calm_whole(seen), proportional, seen)

    def test_tables_that_are_not_told(self):
        self.raises(NotFull, {"view": (-1, 1)}, proportional, seen_of_rows((2, 2), [(-1, 0)]))
        self.raises(NotFull, {"view": (1,)}, proportional, seen_of_rows((2,), [(0,), (-1,)]))
        self.raises(NotClosed, {"pattern": (0,)}, proportional, seen_of_rows((2, 2), [(-1, -1)]))
        self.raises(NotClosed, {"pattern": (0, 1)}, proportional, hidden(uneven((2, 2), [(0,), (1,)], 1)))
        self.raises(NotClosed, {"pattern": (0,)}, proportional, hidden(uneven((2, 2), [(), (0, 1)], 1)))


class Refuted(Checks):
    def check(self, sizes, filler):
        filler, calls = noted(filler)
        seen = refuted(filler, sizes)
        self.assertEqual(sorted(set(calls)), [view for view in all_views(sizes) if -1 in view])
        self.assertEqual([view for view, _ in seen.shares], all_views(sizes))
        self.assertEqual(seen.sizes, sizes)
        self.assertNotEqual(filled_by_the_book(seen, filler), calm_whole(seen))
        self.assertNotEqual(filled(seen, filler), calm_whole(seen))
        self.assertEqual(frozen(refuted(filler, sizes)), frozen(seen))

    def test_many_fillers(self):
        for sizes in [(2,), (3,), (4,), (2, 2), (2, 3), (4, 4), (2, 2, 2), (2, 2, 2, 2), (4, 4, 4)]:
            self.check(sizes, even_filler(sizes))
            for start in range(6 if len(sizes) < 3 else 2):
                self.check(sizes, drawn_filler(sizes, start))

    def test_all_sizes(self):
        for sizes in sizes_of_all()[::5]:
            self.check(sizes, even_filler(sizes))

    def test_fillers_that_are_right_for_some_table(self):
        # Each tells just what a calm whole has: of that table it is right, so another one must be told.
        for sizes in [(2,), (3,), (2, 2), (2, 3), (2, 2, 2)]:
            for seen in [seen_weighed(sizes, lots_of(len(sizes)), [1]),
                         seen_weighed(sizes, lots_of(len(sizes)), [3, 1, 4, 1, 5]),
                         refuted(even_filler(sizes), sizes), refuted(drawn_filler(sizes, 1), sizes)]:
                calm = dict(calm_whole(seen).shares)
                shares = dict(seen.shares)

                def filler(view):
                    return {content: as_pair(Fraction(*calm[content, pattern_of(view)]) / Fraction(*shares[view]))
                            for content in contents_of(sizes, view)}
                self.assertEqual(filled(seen, filler), calm_whole(seen))
                self.check(sizes, filler)

    def test_bad_sizes(self):
        for sizes in WRONG_SIZES + odd_things():
            filler, calls = noted(lambda view: None)
            self.raises(BadSizes, {}, refuted, filler, sizes)
            self.assertEqual(calls, [])

    def test_bad_fillings(self):
        for sizes in [(2,), (2, 3), (2, 2, 2)]:
            blanks = [view for view in all_views(sizes) if -1 in view]
            for view in blanks:
                self.raises(BadFilling, {"view": view}, refuted, wrong_at(sizes, {view: None}), sizes)
            for some in list(itertools.combinations(blanks, 2))[::5]:
                self.raises(BadFilling, {"view": min(some)}, refuted, wrong_at(sizes, {view: {} for view in some}),
                            sizes)


class Drawn(Checks):
    # Of (content, pattern) as they ascend: ((0,), ()) 1/10, ((0,), (0,)) 2/10, ((1,), ()) 3/10, ((1,), (0,)) 4/10.
    WHOLE = weighed((2,), lots_of(1), [1, 2, 3, 4])

    def test_by_hand(self):
        throws = [(0, 1), (1, 11), (1, 10), (1, 9), (2, 7), (3, 10), (1, 2), (3, 5), (9, 10), (999, 1000)]
        answer = [(-1,), (-1,), (0,), (0,), (0,), (-1,), (-1,), (1,), (1,), (1,)]
        self.tells(answer, drawn, self.WHOLE, throws)
        self.tells(answer, drawn, self.WHOLE, tuple(throws))
        self.tells(answer[::-1], drawn, self.WHOLE, throws[::-1])
        self.tells([], drawn, self.WHOLE, [])
        self.tells([], drawn, self.WHOLE, ())

    def test_0_and_just_below_1(self):
        for sizes in [(2,), (2, 3), (4, 4, 4), (2, 2, 2, 2)]:
            whole = uneven(sizes, lots_of(len(sizes)), 1)
            # The last pattern shows the last column alone.
            self.tells([(-1,) * len(sizes), (-1,) * (len(sizes) - 1) + (sizes[-1] - 1,)], drawn, whole,
                       [(0, 1), as_pair(Fraction(SIXTY - 1, SIXTY))])
        self.tells([(0,), (1,), (1,)], drawn, bare_whole(), [(0, 1), (1, 3), (SIXTY - 1, SIXTY)])

    def test_by_running_sums(self):
        for sizes in [(2,), (3,), (2, 3), (4, 4), (2, 2, 2, 2)]:
            for own in (lots_of(len(sizes)), lots_of(len(sizes))[::3]):
                whole = uneven(sizes, own, 5)
                sums = list(itertools.accumulate(Fraction(*fraction) for _, fraction in whole.shares))
                throws = [as_pair(total) for total in sums[:-1]] + [as_pair(total - Fraction(1,
                                                                                             SIXTY // 2)) for total in sums]
                throws += [as_pair(Fraction(top, 97)) for top in range(97)]
                self.tells([met_by(whole, throw) for throw in throws], drawn, whole, throws)

    def test_even_draws(self):
        for whole in (self.WHOLE, uneven((2, 3), lots_of(2), 1), bare_whole()):
            for many in (1, 2, 3, 10, 12, 97, 1000):
                self.tells([met_by(whole, (top, many)) for top in range(many)], even_draws, whole, many)
        self.tells([(-1,)], even_draws, self.WHOLE, 1)
        self.tells([(-1,), (0,), (0,), (-1,), (-1,), (-1,), (1,), (1,), (1,), (1,)], even_draws, self.WHOLE, 10)

    def test_as_many_as_the_shares_say(self):
        whole = weighed((2, 2), lots_of(2), [1, 2, 3, 4, 5])
        bottom = sum([1, 2, 3, 4, 5][place % 5] for place in range(16))
        self.assertEqual(seen_of_rows((2, 2), even_draws(whole, bottom)), hidden(whole))
        self.assertEqual(seen_of_rows((2, 2), even_draws(whole, bottom * 20)), hidden(whole))

    def test_wrong_throws(self):
        wrong = [(1, 1), (2, 1), (-1, 2), (1, -2), (2, 4), (0, 2), (1, 0), (0, 0), (-1, -2), [0, 1], (True, 2),
                 (False, 1), (0, True), (1,),
                 (0, 1, 2), 0, "0", None, (None, 1), ("0", "1"), (SIXTY, 1), (SIXTY, SIXTY - 1), (SIXTY, SIXTY),
                 ((0, 1),), b"\x00\x01",
                 {0: 0, 1: 1}, ((0,), (1,)), ([0], 1)]
        for throw in wrong + odd_things():
            self.raises(BadThrow, {"index": 0}, drawn, self.WHOLE, [throw])
            self.raises(BadThrow, {"index": 2}, drawn, self.WHOLE, ((0, 1), (1, 2), throw, None, throw))
        for thing in odd_numbers():
            if not isinstance(thing, (list, tuple)):
                self.raises(BadThrow, {"index": -1}, drawn, self.WHOLE, thing)
        for thing in [{(0, 1): 1}, "01", b"", 5, None, halves(), range(2), ((0, 1) for _ in "ab")]:
            self.raises(BadThrow, {"index": -1}, drawn, self.WHOLE, thing)
        self.raises(BadThrow, {"index": 0}, drawn, self.WHOLE, (0, 1))

    def test_no_number_of_draws(self):
        for many in odd_numbers() + [0, 1001, -1, 2000, SIXTY, True, "10", (10,), [1]]:
            self.raises(NoNumber, {}, even_draws, self.WHOLE, many)

    def test_many_throws_of_sixty_figures(self):
        whole = weighed((2, 2), lots_of(2), [SIXTY // 3, SIXTY // 7, 1, SIXTY])
        throws = [as_pair(Fraction(SIXTY // 6000 * place + 1, SIXTY)) for place in range(5000)]
        told = drawn(whole, throws)
        self.assertEqual([told[place] for place in range(0, 5000, 50)],
                         [met_by(whole, throw) for throw in throws[::50]])

    def test_numbers_of_any_size(self):
        whole = woven((2,), lots_of(1), 1)
        for place in range(90):
            whole = mixed(whole, uneven((2,), lots_of(1), place), (SIXTY - 2, SIXTY))
        sums = list(itertools.accumulate(Fraction(*fraction) for _, fraction in whole.shares))
        throws = [as_pair(total) for total in sums[:-1]]
        self.assertGreater(throws[0][1].bit_length(), 16000)
        self.tells([(0,), (-1,), (1,)], drawn, whole, throws)


if __name__ == "__main__":
    unittest.main()
