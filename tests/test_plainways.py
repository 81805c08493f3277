"""Plain ways, true shares, and the webs for which a way is right (8)."""

import itertools
import unittest
import unittest.mock
from fractions import Fraction

from calmblanks import plainways
from calmblanks.errors import BadSizes, NoGroup, NoShares, NoWay, NoWish, OtherColumns
from calmblanks.plainways import is_right, is_wrong_whole, plain, right_groups, true_shares, wrong_whole
from calmblanks.tables import Seen, Whole, hidden, mixed, seen_of_rows
from calmblanks.webs import Web, product, tables_of
from tests.helper import (ROWS, SIXTY, Checks, altered, as_pair, bare_whole, fitting, frozen, halves, keys_of, lots_of,
                          odd_things, picked_webs, shown, uneven, webs_of, weighed, woven)
from tests.test_contents import WRONG_PATTERNS, WRONG_SIZES
from tests.test_roads import parted_another_way
from tests.test_telling import fits_by_sums
from tests.test_webs import fullest

WAYS = ("whole rows", "shown rows")
CROSSED = Web(2, ((0, 3), (1, 2)))
SEEN = seen_of_rows((2, 2), ROWS)
WRONG_WAYS = ["", "whole", "rows", "wholerows", "whole  rows", " whole rows", "whole rows ", "Whole rows", "shown", "shown row",
              b"whole rows", ["whole rows"], ("shown rows",), 0, 1, {"whole rows": 1}]


def wishes_and_groups(columns):
    return [(wish, group) for wish in lots_of(columns) if wish
            for group in lots_of(columns) if not set(wish) & set(group)]


def picked(worths, places):
    return tuple(worths[place] for place in places)


def counted(sizes, rows, wish, group):
    """From pairs (worths, weight): the dict that is asked for, or the least worths of the group without a row."""
    found = {}
    for told in itertools.product(*[range(sizes[column]) for column in group]):
        total = sum(weight for worths, weight in rows if picked(worths, group) == told)
        if total == 0:
            return told
        for wished in itertools.product(*[range(sizes[column]) for column in wish]):
            part = sum(weight for worths, weight in rows if picked(worths, group) == told and picked(worths, wish) == wished)
            found[told, wished] = as_pair(Fraction(part) / Fraction(total))
    return found


def plain_by_the_book(sizes, pairs, way, wish, group):
    wanted = range(len(sizes)) if way == "whole rows" else wish + group
    rows = [(view, weight) for view, weight in pairs if all(view[column] != -1 for column in wanted)]
    return counted(sizes, rows, wish, group)


def wrong_by_the_book(whole, way, wish, group):
    """Whether what the way tells of what is seen are not the true shares, by sums of the test's own."""
    rows = [(key, Fraction(*fraction)) for key, fraction in whole.shares]
    seen = [(shown(content, pattern), weight) for (content, pattern), weight in rows]
    true = counted(whole.sizes, [(content, weight) for (content, _), weight in rows], wish, group)
    return plain_by_the_book(whole.sizes, seen, way, wish, group) != true


def blanks_of(columns, way, wish, group):
    return tuple(columns + column for column in range(columns) if way == "whole rows" or column in wish + group)


class Plain(Checks):
    def test_by_hand(self):
        # Of the ten rows in which both are seen, six have a 0 in column 0; of the fifteen in which it is seen, nine.
        self.tells({((), (0,)): (3, 5), ((), (1,)): (2, 5)}, plain, SEEN, "whole rows", (0,), ())
        self.tells({((), (0,)): (3, 5), ((), (1,)): (2, 5)}, plain, SEEN, "shown rows", (0,), ())
        # Column 1: 5 of 10 and 7 of 14 are 0.
        self.tells({((), (0,)): (1, 2), ((), (1,)): (1, 2)}, plain, SEEN, "shown rows", (1,), ())
        answer = {((0,), (0,)): (2, 3), ((0,), (1,)): (1, 3), ((1,), (0,)): (1, 4), ((1,), (1,)): (3, 4)}
        for way in WAYS:
            self.tells(answer, plain, SEEN, way, (1,), (0,))
        answer = {((), (0, 0)): (2, 5), ((), (0, 1)): (1, 5), ((), (1, 0)): (1, 10), ((), (1, 1)): (3, 10)}
        for way in WAYS:
            self.tells(answer, plain, SEEN, way, (0, 1), ())

    def test_the_ways_differ(self):
        seen = seen_of_rows((2, 2), [(0, 0), (0, 0), (1, 1), (1, -1), (1, -1), (1, -1), (-1, 0), (-1, -1)])
        self.tells({((), (0,)): (2, 3), ((), (1,)): (1, 3)}, plain, seen, "whole rows", (0,), ())
        self.tells({((), (0,)): (1, 3), ((), (1,)): (2, 3)}, plain, seen, "shown rows", (0,), ())
        self.tells({((), (0,)): (3, 4), ((), (1,)): (1, 4)}, plain, seen, "shown rows", (1,), ())

    def test_a_table_that_is_not_full(self):
        seen = seen_of_rows((3, 2), [(0, 0), (2, 1), (2, -1)])
        self.tells({((), (0,)): (1, 2), ((), (1,)): (0, 1), ((), (2,)): (1, 2)}, plain, seen, "whole rows", (0,), ())
        self.tells({((), (0,)): (1, 3), ((), (1,)): (0, 1), ((), (2,)): (2, 3)}, plain, seen, "shown rows", (0,), ())
        answer = {((0,), (0,)): (1, 1), ((0,), (1,)): (0, 1), ((0,), (2,)): (0, 1),
                  ((1,), (0,)): (0, 1), ((1,), (1,)): (0, 1), ((1,), (2,)): (1, 1)}
        self.tells(answer, plain, seen, "shown rows", (0,), (1,))

    def test_by_counting_rows(self):
        for sizes in [(2,), (4,), (2, 2), (3, 2), (2, 3, 2), (2, 2, 2, 2)]:
            views = sorted({shown(content, pattern) for content, pattern in keys_of(sizes, lots_of(len(sizes)))})
            many = [7, 0, 3, 1, 2, 0, 5, 11, 1, 1, 4]
            rows = [view for place, view in enumerate(views) for _ in range(many[place % len(many)])]
            for way in WAYS:
                for wish, group in wishes_and_groups(len(sizes)):
                    answer = plain_by_the_book(sizes, [(row, 1) for row in rows], way, wish, group)
                    if isinstance(answer, dict):
                        self.tells(answer, plain, seen_of_rows(sizes, rows), way, wish, group)
                    else:
                        self.raises(NoShares, {"worths": answer}, plain, seen_of_rows(sizes, rows), way, wish, group)

    def test_all_pairs_are_there(self):
        told = plain(hidden(uneven((4, 4, 4), lots_of(3), 1)), "shown rows", (0, 2), (1,))
        answer = [((one,), (two, three)) for one in range(4) for two in range(4) for three in range(4)]
        self.assertEqual(list(told), answer)
        for one in range(4):
            self.assertEqual(sum(Fraction(*told[key]) for key in answer if key[0] == (one,)), 1)

    def test_no_shares(self):
        one = seen_of_rows((2, 2), [(0, -1), (0, -1), (1, -1), (-1, -1)])
        self.raises(NoShares, {"worths": ()}, plain, one, "whole rows", (0,), ())
        self.raises(NoShares, {"worths": ()}, plain, one, "shown rows", (1,), ())
        self.raises(NoShares, {"worths": (0,)}, plain, one, "shown rows", (0,), (1,))
        self.raises(NoShares, {"worths": (0,)}, plain, one, "whole rows", (0,), (1,))
        self.tells({((), (0,)): (2, 3), ((), (1,)): (1, 3)}, plain, one, "shown rows", (0,), ())
        self.raises(NoShares, {"worths": ()}, plain, Seen((2,), (((-1,), (1, 1)),)), "shown rows", (0,), ())

    def test_the_least_worths_of_the_group(self):
        seen = seen_of_rows((2, 3, 2), [(0, 0, 0), (0, 1, 1), (0, -1, 0), (1, 1, -1), (1, 2, 0), (-1, 2, 1)])
        self.raises(NoShares, {"worths": (1, 1)}, plain, seen, "whole rows", (1,), (0, 2))
        self.raises(NoShares, {"worths": (0, 2)}, plain, seen, "whole rows", (2,), (0, 1))
        self.raises(NoShares, {"worths": (1, 1)}, plain, seen, "shown rows", (1,), (0, 2))
        self.raises(NoShares, {"worths": (0, 2)}, plain, seen, "shown rows", (2,), (0, 1))

    def test_errors_come_in_their_order(self):
        part = Seen((2,), (((-1,), (1, 1)),))
        self.raises(NoWay, {}, plain, part, None, None, None)
        self.raises(NoWish, {}, plain, part, "whole rows", None, None)
        self.raises(NoWish, {}, plain, part, "whole rows", (), (0,))
        self.raises(NoGroup, {}, plain, part, "shown rows", (0,), (0,))
        self.raises(NoShares, {"worths": ()}, plain, part, "shown rows", (0,), ())

    def test_sixty_digits(self):
        seen = Seen((2,), (((-1,), as_pair(Fraction(SIXTY - 5, SIXTY))), ((0,), (2, SIXTY)), ((1,), as_pair(Fraction(3, SIXTY)))))
        for way in WAYS:
            self.tells({((), (0,)): (2, 5), ((), (1,)): (3, 5)}, plain, seen, way, (0,), ())
        seen = Seen((2,), (((0,), (1, SIXTY)), ((1,), (SIXTY - 1, SIXTY))))
        self.tells({((), (0,)): (1, SIXTY), ((), (1,)): (SIXTY - 1, SIXTY)}, plain, seen, "whole rows", (0,), ())


class TrueShares(Checks):
    def test_by_hand(self):
        whole = weighed((2,), lots_of(1), [1, 2, 3, 4])
        self.tells({((), (0,)): (3, 10), ((), (1,)): (7, 10)}, true_shares, whole, (0,), ())
        self.tells({((), (0,)): (1, 3), ((), (1,)): (2, 3)}, true_shares, bare_whole(), (0,), ())
        whole = weighed((2, 2), [()], [1, 2, 3, 4])
        answer = {((0,), (0,)): (1, 4), ((0,), (1,)): (3, 4), ((1,), (0,)): (1, 3), ((1,), (1,)): (2, 3)}
        self.tells(answer, true_shares, whole, (0,), (1,))

    def test_by_counting(self):
        for sizes in [(2,), (4,), (3, 2), (2, 3, 2), (2, 2, 2, 2)]:
            for own in (lots_of(len(sizes)), lots_of(len(sizes))[::3]):
                whole = uneven(sizes, own, 3)
                rows = [(content, Fraction(*fraction)) for (content, _), fraction in whole.shares]
                for wish, group in wishes_and_groups(len(sizes)):
                    self.tells(counted(sizes, rows, wish, group), true_shares, whole, wish, group)

    def test_a_wish_of_all_columns(self):
        whole = uneven((4, 4, 4), lots_of(3), 1)
        told = true_shares(whole, (0, 1, 2), ())
        self.assertEqual(len(told), 64)
        self.assertEqual(sum(Fraction(*fraction) for fraction in told.values()), 1)

    def test_errors_come_in_their_order(self):
        self.raises(NoWish, {}, true_shares, bare_whole(), None, None)
        self.raises(NoWish, {}, true_shares, bare_whole(), (), (0,))
        self.raises(NoGroup, {}, true_shares, bare_whole(), (0,), (0,))

    def test_what_was_told_may_be_passed_on_whatever_its_size(self):
        whole = uneven((2, 2), lots_of(2), 1)
        for _ in range(60):
            whole = mixed(whole, uneven((2, 2), lots_of(2), 2), (SIXTY - 2, SIXTY))
        rows = [(content, Fraction(*fraction)) for (content, _), fraction in whole.shares]
        told = true_shares(whole, (0,), (1,))
        self.assertEqual(told, counted((2, 2), rows, (0,), (1,)))
        self.assertGreater(told[(0,), (0,)][1].bit_length(), 10000)


class WrongArguments(Checks):
    def calls(self, columns):
        """Functions of a way, a wish and a group, in which these are judged."""
        whole = woven((2,) * columns, lots_of(columns), 1)
        web = Web(columns, ())
        sizes = (2,) * columns
        return [lambda way, wish, group: plain(hidden(whole), way, wish, group),
                lambda way, wish, group: is_right(web, way, wish, group),
                lambda way, wish, group: wrong_whole(web, sizes, way, wish, group),
                lambda way, wish, group: is_wrong_whole(web, sizes, way, wish, group, whole)]

    def test_no_way(self):
        for way in WRONG_WAYS + odd_things():
            for call in self.calls(2):
                self.raises(NoWay, {}, call, way, (0,), ())
                self.raises(NoWay, {}, call, way, (), ())
            self.raises(NoWay, {}, right_groups, CROSSED, way, (0,))
            self.raises(NoWay, {}, right_groups, CROSSED, way, None)

    def test_no_wish(self):
        whole = uneven((2, 3), lots_of(2), 1)
        for wish in WRONG_PATTERNS + odd_things() + [()]:
            for way in WAYS:
                for call in self.calls(2):
                    self.raises(NoWish, {}, call, way, wish, ())
                    self.raises(NoWish, {}, call, way, wish, None)
                self.raises(NoWish, {}, right_groups, CROSSED, way, wish)
            self.raises(NoWish, {}, true_shares, whole, wish, (0,))
        for _, wish in altered((0, 1)):
            for call in self.calls(2):
                self.raises(NoWish, {}, call, "whole rows", wish, ())

    def test_no_group(self):
        whole = uneven((2, 3, 2), lots_of(3), 1)
        wrong = [group for group in WRONG_PATTERNS if group not in [(2,), (0, 2), (0, 1, 2)]]
        for group in wrong + odd_things() + [(1,), (0, 1), (0, 1, 2), (1, 2), (3,), (0, 3)]:
            for way in WAYS:
                for call in self.calls(3):
                    self.raises(NoGroup, {}, call, way, (1,), group)
            self.raises(NoGroup, {}, true_shares, whole, (1,), group)
        for _, group in altered((0, 2)):
            for call in self.calls(3):
                self.raises(NoGroup, {}, call, "shown rows", (1,), group)

    def test_columns_that_are_not_there(self):
        for columns in (1, 2, 3, 4):
            for call in self.calls(columns):
                self.raises(NoWish, {}, call, "whole rows", (columns,), ())
                self.raises(NoGroup, {}, call, "whole rows", (0,), (columns,))
            self.raises(NoWish, {}, right_groups, Web(columns, ()), "whole rows", (columns,))

    def test_sizes_and_columns_come_first(self):
        whole = fitting(CROSSED, (2, 2), 1)
        for sizes in WRONG_SIZES + odd_things():
            self.raises(BadSizes, {}, wrong_whole, CROSSED, sizes, "whole rows", (0,), ())
            self.raises(BadSizes, {}, wrong_whole, CROSSED, sizes, None, None, None)
            self.raises(BadSizes, {}, is_wrong_whole, CROSSED, sizes, "whole rows", (0,), (), whole)
            self.raises(BadSizes, {}, is_wrong_whole, CROSSED, sizes, None, None, None, None)
        for sizes in [(2,), (2, 2, 2), (4, 4, 4), (2, 2, 2, 2)]:
            self.raises(OtherColumns, {}, wrong_whole, CROSSED, sizes, "whole rows", (0,), ())
            self.raises(OtherColumns, {}, wrong_whole, CROSSED, sizes, None, None, None)
            self.raises(OtherColumns, {}, is_wrong_whole, CROSSED, sizes, "whole rows", (0,), (), whole)
            self.raises(OtherColumns, {}, is_wrong_whole, CROSSED, sizes, None, None, None, None)
        self.raises(NoWay, {}, wrong_whole, CROSSED, (2, 2), None, None, None)
        self.raises(NoWish, {}, wrong_whole, CROSSED, (2, 2), "whole rows", None, None)
        self.raises(NoGroup, {}, wrong_whole, CROSSED, (2, 2), "whole rows", (0,), None)


class Right(Checks):
    def test_the_example(self):
        self.tells(True, is_right, CROSSED, "shown rows", (0,), ())
        self.tells(False, is_right, CROSSED, "whole rows", (0,), ())

    def test_by_hand(self):
        own = Web(1, ((0, 1),))
        for way in WAYS:
            self.tells(True, is_right, Web(1, ()), way, (0,), ())
            self.tells(False, is_right, own, way, (0,), ())
        # Column 1 is blank as column 0 says, which is never untold in its group.
        led = Web(2, ((0, 1), (0, 3)))
        self.tells(False, is_right, led, "shown rows", (1,), ())
        self.tells(True, is_right, led, "shown rows", (1,), (0,))
        self.tells(True, is_right, led, "whole rows", (1,), (0,))
        self.tells(True, is_right, led, "shown rows", (0,), ())
        self.tells(False, is_right, led, "shown rows", (0,), (1,))
        self.tells(False, is_right, led, "whole rows", (0,), ())
        self.tells([(0,)], right_groups, led, "whole rows", (1,))
        self.tells([()], right_groups, led, "shown rows", (0,))
        self.tells([], right_groups, led, "whole rows", (0,))

    def test_no_arrows_and_all(self):
        for columns in (1, 2, 3, 4):
            for wish, group in wishes_and_groups(columns):
                for way in WAYS:
                    self.tells(True, is_right, Web(columns, ()), way, wish, group)
                    self.tells(False, is_right, Web(columns, fullest(columns)), way, wish, group)

    def test_by_the_fact_of_plain_ways(self):
        for web in webs_of(1) + webs_of(2) + picked_webs(3, 20) + picked_webs(4, 5):
            for way in WAYS:
                right = {}
                for wish, group in wishes_and_groups(web.columns):
                    blanks = blanks_of(web.columns, way, wish, group)
                    answer = parted_another_way(web, wish, blanks, group)
                    self.assertIs(is_right(web, way, wish, group), answer)
                    right.setdefault(wish, []).extend([group] if answer else [])
                for wish, groups in right.items():
                    answer = sorted(groups, key=lambda group: (len(group), group))
                    self.tells(answer, right_groups, web, way, wish)

    def test_right_ways_tell_the_truth_of_wholes_that_fit(self):
        for place, web in enumerate(webs_of(1) + webs_of(2) + picked_webs(3, 10)):
            sizes = (2, 3, 2)[:web.columns]
            whole = fitting(web, sizes, place + 1)
            for way in WAYS:
                for wish, group in wishes_and_groups(web.columns):
                    # What is drawn shows each way wrong that is not right.
                    wrong = wrong_by_the_book(whole, way, wish, group)
                    self.assertEqual(is_right(web, way, wish, group), not wrong)
                    self.assertIs(is_wrong_whole(web, sizes, way, wish, group, whole), wrong)

    def test_groups_of_all_lots_beside_the_wish(self):
        self.tells([(), (0,), (2,), (3,), (0, 2), (0, 3), (2, 3), (0, 2, 3)], right_groups, Web(4, ()), "whole rows", (1,))
        self.tells([()], right_groups, Web(4, ()), "shown rows", (0, 1, 2, 3))
        self.tells([(), (1,)], right_groups, Web(3, ()), "shown rows", (0, 2))
        told = right_groups(Web(3, ()), "shown rows", (0, 2))
        told.clear()
        self.tells([(), (1,)], right_groups, Web(3, ()), "shown rows", (0, 2))


class WrongWholes(Checks):
    def check(self, web, sizes, way, wish, group):
        whole = wrong_whole(web, sizes, way, wish, group)
        if parted_another_way(web, wish, blanks_of(web.columns, way, wish, group), group):
            self.assertIsNone(whole)
            return
        self.assertIs(whole.__class__, Whole)
        self.assertEqual([key for key, _ in whole.shares], keys_of(sizes, lots_of(len(sizes))))
        self.assertTrue(wrong_by_the_book(whole, way, wish, group))
        self.assertTrue(fits_by_sums(web, whole))
        self.assertIs(is_wrong_whole(web, sizes, way, wish, group, whole), True)

    def test_all_webs_of_one_and_two_columns(self):
        for place, web in enumerate(webs_of(1) + webs_of(2)):
            for way in WAYS:
                for wish, group in wishes_and_groups(web.columns):
                    self.check(web, [(2, 2), (2, 3), (3, 2)][place % 3][:web.columns], way, wish, group)

    def test_the_most_worths(self):
        for web in webs_of(2)[::20]:
            for wish, group in wishes_and_groups(2):
                self.check(web, (4, 4), "shown rows", wish, group)
        for size in (3, 4):
            for way in WAYS:
                self.check(Web(1, ((0, 1),)), (size,), way, (0,), ())

    def test_three_and_four_columns(self):
        for web in picked_webs(3, 10):
            for way in WAYS:
                for wish, group in wishes_and_groups(3)[::4]:
                    self.check(web, (2, 3, 2), way, wish, group)
        for web in picked_webs(4, 5):
            for wish, group in wishes_and_groups(4)[::15]:
                self.check(web, (2, 2, 2, 2), "whole rows", wish, group)

    def test_a_long_road(self):
        # Only over all of the other things does column 0 hang on whether it is blank itself.
        web = Web(4, ((0, 1), (1, 6), (2, 3), (2, 6), (3, 7), (7, 4)))
        self.check(web, (2, 2, 2, 2), "whole rows", (0,), ())
        self.check(web, (2, 2, 2, 2), "shown rows", (0,), ())
        self.check(Web(3, ((0, 1), (1, 2), (2, 5), (4, 3), (5, 4))), (4, 4, 4), "shown rows", (0,), ())

    def test_where_the_first_that_is_drawn_shows_nothing(self):
        web = Web(2, ((0, 2),))
        even = weighed((2, 2), lots_of(2), [1])
        drawn = plainways.drawn_whole
        with unittest.mock.patch.object(plainways, "drawn_whole", lambda *own: drawn(*own) if own[2] > 1 else even):
            self.check(web, (2, 2), "shown rows", (0,), ())

    def test_equal_calls_give_equal_answers(self):
        for way in WAYS:
            one = wrong_whole(Web(2, ((0, 2),)), (2, 3), way, (0,), (1,))
            self.assertEqual(frozen(one), frozen(wrong_whole(Web(2, ((0, 2),)), (2, 3), way, (0,), (1,))))

    def test_what_is_no_wrong_whole(self):
        web = Web(2, ((0, 2),))
        wrong = fitting(web, (2, 2), 1)
        arguments = (web, (2, 2), "shown rows", (0,), ())
        self.tells(True, is_wrong_whole, *arguments, wrong)
        even = weighed((2, 2), lots_of(2), [1])
        for whole in [even, fitting(web, (2, 3), 1), fitting(web, (3, 3), 1), fitting(Web(2, ((0, 3),)), (2, 2), 1),
                      uneven((2, 2), lots_of(2), 1), uneven((2, 2), lots_of(2)[1:], 1), uneven((2, 2), [(0, 1)], 1)]:
            self.tells(False, is_wrong_whole, *arguments, whole)
        for thing in odd_things() + [0, 1, wrong.shares, (wrong.sizes, wrong.shares), vars(wrong), hidden(wrong), halves(), [wrong]]:
            self.tells(False, is_wrong_whole, *arguments, thing)

    def test_none_for_a_way_that_is_right(self):
        for place, whole in enumerate([fitting(CROSSED, (2, 2), 1), fitting(CROSSED, (2, 2), 2),
                                       uneven((2, 2), lots_of(2), 3)]):
            self.tells(False, is_wrong_whole, CROSSED, (2, 2), "shown rows", (0,), (), whole)
            self.tells(place < 2, is_wrong_whole, CROSSED, (2, 2), "whole rows", (0,), (), whole)
        self.tells(None, wrong_whole, CROSSED, (2, 2), "shown rows", (0,), ())

    def test_a_whole_that_fits_and_of_which_the_way_tells_the_truth(self):
        web = Web(2, ((0, 2), (1, 3)))
        whole = fitting(web, (2, 2), 1)
        calmer = product(web, (2, 2), tables_of(web, fitting(Web(2, ((1, 3),)), (2, 2), 1)))
        self.tells(True, is_wrong_whole, web, (2, 2), "shown rows", (0,), (), whole)
        self.tells(False, is_wrong_whole, web, (2, 2), "shown rows", (0,), (), calmer)
        self.tells(True, is_wrong_whole, web, (2, 2), "shown rows", (1,), (), calmer)

    def test_numbers_of_any_size(self):
        web = Web(1, ((0, 1),))
        whole = fitting(web, (2,), 1)
        for _ in range(90):
            whole = mixed(whole, fitting(web, (2,), 2), (SIXTY - 2, SIXTY))
        self.tells(True, is_wrong_whole, web, (2,), "shown rows", (0,), (), whole)


if __name__ == "__main__":
    unittest.main()
