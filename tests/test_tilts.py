"""Tilted wholes, and the tilts by which they are tilted (4)."""

import itertools
import unittest
from fractions import Fraction

from calmblanks.calm import calm_part, calm_whole, is_calm
from calmblanks.errors import BadTilts, NotAlike, NotClosed, NotFull, NotTilted, OtherSizes
from calmblanks.tables import Seen, Whole, family, hidden, mixed, patterns_alone, seen_of_rows, share
from calmblanks.tilts import retilted, tilted_whole, tilts_between, tilts_of
from tests.helper import (ROWS, SIXTY, Checks, all_families, altered, as_pair, bare_whole, closed_families, deep,
                          drawn_tilts, frozen, halves, lots_of, odd_things, ones, tilted, uneven, weighed, woven)
from tests.test_calm import steps_of
from tests.test_calm_whole import seen_weighed

SEEN = seen_of_rows((2, 2), ROWS)
TILTS = (((1, 1), (2, 3)), ((1, 1), (5, 1)))
# As many shares of views as there are: 0, 1 and blank.
ONE = Seen((2,), (((-1,), (1, 4)), ((0,), (1, 2)), ((1,), (1, 4))))
SOME_SIZES = [(2,), (4,), (2, 3), (4, 4), (2, 3, 2), (2, 2, 2, 2)]
# Pairs of what is no tilts for the sizes (2, 2), and the column that is told.
WRONG_TILTS = [
    (None, -1), ((), -1), (TILTS[:1], -1), (TILTS + TILTS[:1], -1), (list(TILTS), -1), (dict(enumerate(TILTS)), -1),
    (2, -1),
    ("11", -1), ((None, None), 0), ((TILTS[0], None), 1), ((None, TILTS[1]), 0), (([], TILTS[1]), 0), (((), ()), 0),
    ((list(TILTS[0]), TILTS[1]), 0), ((TILTS[0], list(TILTS[1])), 1), ((((1, 1),), TILTS[1]), 0),
    ((TILTS[0], ((1, 1),)), 1),
    ((TILTS[0], ((1, 1),) * 3), 1), ((((1, 1),) * 3, ((1, 1),) * 3), 0), ((((2, 1), (1, 1)), TILTS[1]), 0),
    ((TILTS[0], ((1, 2), (1, 1))), 1), ((((2, 2), (1, 1)), TILTS[1]), 0), ((((1, 1), (0, 1)), TILTS[1]), 0),
    ((((1, 1), (-1, 2)), TILTS[1]), 0), ((((1, 1), (1, -2)), TILTS[1]), 0), ((((1, 1), (2, 4)), TILTS[1]), 0),
    ((((1, 1), (1, 0)), TILTS[1]), 0), ((((True, 1), (1, 2)), TILTS[1]), 0), ((((1, True), (1, 2)), TILTS[1]), 0),
    ((((1, 1), (True, 2)), TILTS[1]), 0), ((TILTS[0], ((1, 1), (1, True))), 1), ((((1, 1), [1, 2]), TILTS[1]), 0),
    (([1, 1], TILTS[1]), 0), ((((1, 1), (1,)), TILTS[1]), 0), ((((1, 1), (1, 2, 3)), TILTS[1]), 0),
    ((((1, 1), 2), TILTS[1]), 0), (((1, 2), TILTS[1]), 0), ((((1, 1), ("1", "2")), TILTS[1]), 0),
    ((((1, 1), b"\x01\x02"), TILTS[1]), 0),
    ((((1, 1), None), ((1, 1), None)), 0), ((TILTS[0], ((1, 1), (SIXTY, -SIXTY))), 1),
    ((TILTS[0], ((1, 1), (2 * SIXTY, 2))), 1),
    ((TILTS[0], ((1, 1), halves())), 1), ((TILTS[0], ((1, 1), {0: 1, 1: 2})), 1),
]


def tilts_by_the_book(whole):
    """The tilts read off by quotients of quotients, None if two of these are not alike."""
    shares = {key: Fraction(*fraction) for key, fraction in whole.shares}
    own = sorted({pattern for _, pattern in shares})
    found = []
    for column, size in enumerate(whole.sizes):
        lines = set()
        for content, pattern in shares:
            if (column, pattern) in steps_of(own, len(whole.sizes)):
                more = tuple(sorted(pattern + (column,)))
                along = [content[:column] + (worth,) + content[column + 1:] for worth in range(size)]
                steps = [shares[other, pattern] / shares[other, more] for other in along]
                lines.add(tuple(as_pair(step / steps[0]) for step in steps))
        if len(lines) > 1:
            return None
        found.append(lines.pop() if lines else ((1, 1),) * size)
    return tuple(found)


def families_for(sizes):
    """Closed families: all of up to two columns, else those of all patterns, of all but one, and some others."""
    many = len(sizes)
    if many < 3:
        return closed_families(many)
    return [lots_of(many), lots_of(many)[1:], [pattern for pattern in lots_of(many) if len(pattern) >= many - 1],
            [tuple(range(many))], [tuple(range(many - 1)), tuple(range(many))]]


def tilts_that_count(sizes, own, tilts):
    """Tilts with 1 for each column that no pattern leaves blank."""
    return tuple(line if any(column not in pattern for pattern in own) else ((1, 1),) * sizes[column]
                 for column, line in enumerate(tilts))


class TiltedByHand(Checks):
    def test_one_column(self):
        # Of all that is blank the worth 1 has its share, half as often as 0, three times: 1/4 parted as 2 to 3.
        answer = ((((0,), ()), (1, 10)), (((0,), (0,)), (1, 2)), (((1,), ()), (3, 20)), (((1,), (0,)), (1, 4)))
        self.tells(Whole((2,), answer), tilted_whole, ONE, (((1, 1), (3, 1)),))
        answer = ((((0,), ()), (6, 28)), (((0,), (0,)), (1, 2)), (((1,), ()), (1, 28)), (((1,), (0,)), (1, 4)))
        right = tuple((key, as_pair(Fraction(*fraction))) for key, fraction in answer)
        self.tells(Whole((2,), right), tilted_whole, ONE, (((1, 1), (1, 3)),))

    def test_one_column_of_four_worths(self):
        seen = Seen((4,), (((-1,), (1, 2)), ((0,), (1, 8)), ((1,), (1, 8)), ((2,), (1, 8)), ((3,), (1, 8))))
        whole = tilted_whole(seen, (((1, 1), (2, 1), (1, 2), (3, 2)),))
        self.assertEqual([share(whole, ((worth,), ())) for worth in range(4)], [(1, 10), (1, 5), (1, 20), (3, 20)])
        self.assertEqual([share(whole, ((worth,), (0,))) for worth in range(4)], [(1, 8)] * 4)

    def test_two_columns_of_which_one_is_blank_at_times(self):
        # Those with column 0 a 0 are seen 1 to 2 in column 1, by the tilt 1/4 they are 2 to 1 where it is blank.
        seen = Seen((2, 2), (((0, -1), (1, 4)), ((0, 0), (1, 24)), ((0, 1), (1, 12)),
                             ((1, -1), (1, 8)), ((1, 0), (3, 8)), ((1, 1), (1, 8))))
        whole = tilted_whole(seen, (((1, 1), (7, 1)), ((1, 1), (1, 4))))
        self.assertEqual([share(whole, (content, (0,))) for content in [(0, 0), (0, 1), (1, 0), (1, 1)]],
                         [(1, 6), (1, 12), as_pair(Fraction(12, 13 * 8)), as_pair(Fraction(1, 13 * 8))])
        self.assertEqual(share(whole, ((1, 0), (0, 1))), (3, 8))
        # No row has column 0 blank, so its own tilts show nowhere.
        self.tells((((1, 1), (1, 1)), ((1, 1), (1, 4))), tilts_of, whole)

    def test_the_rows_of_the_examples_by_hand(self):
        # Rows in which all is seen: 4, 2, 1, 3; column 1 blank, with the tilt 5: 3 parted 4 to 10, 2 parted 1 to 15.
        whole = tilted_whole(SEEN, TILTS)
        self.tells(as_pair(Fraction(3 * 4, 20 * 14)), share, whole, ((0, 0), (0,)))
        self.tells(as_pair(Fraction(3 * 10, 20 * 14)), share, whole, ((0, 1), (0,)))
        self.tells(as_pair(Fraction(2 * 15, 20 * 16)), share, whole, ((1, 1), (0,)))
        # Column 0 blank, with the tilt 2/3: 2 parted 4 to 2/3, 2 parted 2 to 2.
        self.tells(as_pair(Fraction(2 * 6, 20 * 7)), share, whole, ((0, 0), (1,)))
        self.tells((1, 20), share, whole, ((0, 1), (1,)))
        # All blank: the count by the quotients 3/14, 2/16 of column 0 and 6/14, 2/4 of column 1, and by both tilts.
        weights = [4 * Fraction(3, 14) * Fraction(6, 14), 2 * Fraction(3, 14) * Fraction(2, 4) * 5,
                   1 * Fraction(2, 16) * Fraction(6, 14) * Fraction(2, 3),
                   3 * Fraction(2, 16) * Fraction(2, 4) * Fraction(10, 3)]
        for content, weight in zip([(0, 0), (0, 1), (1, 0), (1, 1)], weights):
            self.tells(as_pair(weight / sum(weights) / 20), share, whole, (content, ()))

    def test_nothing_blank(self):
        seen = hidden(bare_whole())
        self.tells(bare_whole(), tilted_whole, seen, (((1, 1), (SIXTY, 2)),))
        self.tells((((1, 1), (1, 1)),), tilts_of, bare_whole())


class Tilted(Checks):
    def test_told_back_from_hidden_tables_and_tilts(self):
        for sizes in SOME_SIZES:
            for place, own in enumerate(families_for(sizes)):
                tilts = drawn_tilts(sizes, place + 1)
                whole = tilted(sizes, own, tilts, place + 7)
                self.tells(whole, tilted_whole, hidden(whole), tilts)
                self.tells(tilts_that_count(sizes, own, tilts), tilts_of, whole)

    def test_all_closed_families_of_three_columns(self):
        tilts = drawn_tilts((2, 2, 2), 5)
        for place, own in enumerate(closed_families(3)):
            whole = tilted((2, 2, 2), own, tilts, place + 1)
            self.tells(whole, tilted_whole, hidden(whole), tilts)
            self.tells(tilts_that_count((2, 2, 2), own, tilts), tilts_of, whole)

    def test_sizes_with_the_product_64(self):
        for sizes in [(4, 4, 4), (2, 2, 4, 4)]:
            for own in families_for(sizes)[:3]:
                tilts = drawn_tilts(sizes, 3)
                whole = tilted(sizes, own, tilts, 11)
                self.assertEqual(tilted_whole(hidden(whole), tilts), whole)
                self.assertEqual(tilts_of(whole), tilts)

    def test_the_fact_of_tilts(self):
        for sizes in SOME_SIZES:
            for own in families_for(sizes):
                seen = seen_weighed(sizes, own, [5, 1, 9, 2, 3, 7, 8])
                self.tells(calm_whole(seen), tilted_whole, seen, ones(sizes))
                tilts = drawn_tilts(sizes, 2)
                whole = tilted_whole(seen, tilts)
                self.assertEqual(hidden(whole), seen)
                self.assertEqual(tilts_by_the_book(whole), tilts_that_count(sizes, own, tilts))
                self.assertEqual(patterns_alone(whole), patterns_alone(seen))
                self.assertEqual(family(whole), own)
                self.assertEqual(is_calm(whole), tilts_that_count(sizes, own, tilts) == ones(sizes))

    def test_wrong_tilts(self):
        for tilts, column in WRONG_TILTS:
            self.raises(BadTilts, {"column": column}, tilted_whole, SEEN, tilts)
        for thing in odd_things():
            is_pair = isinstance(thing, tuple) and len(thing) == 2
            self.raises(BadTilts, {"column": 0 if is_pair else -1}, tilted_whole, SEEN, thing)
            self.raises(BadTilts, {"column": 0}, tilted_whole, SEEN, (thing, thing))
            self.raises(BadTilts, {"column": 1}, tilted_whole, SEEN, (TILTS[0], thing))
            self.raises(BadTilts, {"column": 1}, tilted_whole, SEEN, (TILTS[0], (TILTS[1][0], thing)))
            self.raises(BadTilts, {"column": 0}, tilted_whole, ONE, ((thing, (1, 1)),))
        for path, tilts in altered(TILTS):
            self.raises(BadTilts, {"column": path[0] if path else -1}, tilted_whole, SEEN, tilts)
        for make in (lambda thing: (thing,), lambda thing: [thing], lambda thing: {0: thing}):
            self.raises(BadTilts, {"column": 1}, tilted_whole, SEEN, (TILTS[0], (TILTS[1][0], (deep(make, 37), 1))))

    def test_the_first_column_that_is_wrong(self):
        sizes = (2, 3, 2, 4)
        seen = hidden(woven(sizes, [(0, 1, 2, 3)], 1))
        right = ones(sizes)
        for first in range(4):
            for wrong in [None, (), ((1, 2), (1, 1)), ((1, 1),) * 5]:
                self.raises(BadTilts, {"column": first}, tilted_whole, seen, right[:first] + (wrong,) * (4 - first))
        self.raises(BadTilts, {"column": -1}, tilted_whole, seen, (None,) * 5)

    def test_tables_that_are_not_told(self):
        for tilts in [TILTS, None, (), SEEN]:
            self.raises(NotFull, {"view": (-1, 1)}, tilted_whole, seen_of_rows((2, 2), [(-1, 0)]), tilts)
            self.raises(NotFull, {"view": (0, 0)}, tilted_whole, seen_of_rows((2, 2), [(1, 1)]), tilts)
            self.raises(NotClosed, {"pattern": (0,)}, tilted_whole, hidden(uneven((2, 2), [(), (0, 1)], 1)), tilts)
            self.raises(NotClosed, {"pattern": (0, 1)}, tilted_whole, hidden(uneven((2, 2), [(0,), (1,)], 1)), tilts)
            self.raises(NotClosed, {"pattern": (0,)}, tilted_whole, seen_of_rows((2, 2), [(-1, -1)]), tilts)


class TiltsOf(Checks):
    def test_by_the_book(self):
        for sizes in [(2,), (4,), (2, 3), (2, 2, 2)]:
            for place, own in enumerate(all_families(len(sizes))[::7 if len(sizes) > 2 else 1]):
                tilts = drawn_tilts(sizes, place + 1)
                whole = tilted(sizes, own, tilts, place + 1)
                self.tells(tilts_by_the_book(whole), tilts_of, whole)
                for start in (1, 2):
                    whole = uneven(sizes, own, start)
                    self.tells(tilts_by_the_book(whole), tilts_of, whole)

    def test_of_calm_wholes(self):
        for sizes in SOME_SIZES:
            self.tells(ones(sizes), tilts_of, woven(sizes, lots_of(len(sizes)), 1))

    def test_one_column_is_tilted_always(self):
        # Of (content, pattern) as they ascend: ((0,), ()), ((0,), (0,)), ((1,), ()), ((1,), (0,)).
        self.tells((((1, 1), (6, 5)),), tilts_of, weighed((2,), lots_of(1), [2, 3, 4, 5]))
        self.tells((((1, 1), (1, 2), (4, 1)),), tilts_of, weighed((3,), lots_of(1), [1, 1, 1, 2, 4, 1]))

    def test_one_share_more_and_no_tilts_are_left(self):
        whole = tilted((2, 2), lots_of(2), TILTS, 1)
        for at in range(len(whole.shares)):
            weights = [Fraction(*fraction) for _, fraction in whole.shares]
            weights[at] *= 2
            self.tells(None, tilts_of, weighed((2, 2), lots_of(2), weights))

    def test_along_one_column_alone(self):
        # Column 1 is blank as column 0 says: twice as often, four times as often; nothing of column 0 is ever blank.
        whole = weighed((2, 2), [(0,), (0, 1)], [1, 3, 4, 6, 5, 2, 20, 4])
        self.tells((((1, 1), (1, 1)), ((1, 1), (2, 1))), tilts_of, whole)
        self.tells(None, tilts_of, weighed((2, 2), [(0,), (0, 1)], [1, 3, 4, 6, 5, 2, 20, 5]))
        self.tells((((1, 1), (1, 1)), ((1, 1), (1, 1))), tilts_of,
                   weighed((2, 2), [(), (0, 1)], [1, 7, 4, 6, 5, 2, 20, 4]))
        self.tells((((1, 1), (1, 1)), ((1, 1), (1, 1))), tilts_of, weighed((2, 2), [(0,)], [1, 7, 4, 6]))


class Retilted(Checks):
    def test_there_and_back(self):
        for sizes in SOME_SIZES:
            for place, own in enumerate(families_for(sizes)):
                tilts = drawn_tilts(sizes, place + 1)
                whole = tilted(sizes, own, tilts, place + 1)
                others = drawn_tilts(sizes, place + 50)
                other = retilted(whole, others)
                self.assertEqual(hidden(other), hidden(whole))
                self.assertEqual(tilts_by_the_book(other), tilts_that_count(sizes, own, others))
                self.tells(whole, retilted, other, tilts)
                self.tells(calm_part(whole), retilted, whole, ones(sizes))
                self.tells(whole, retilted, calm_part(whole), tilts)

    def test_errors_and_their_order(self):
        whole = tilted((2, 2), lots_of(2), TILTS, 1)
        for tilts, column in WRONG_TILTS:
            self.raises(BadTilts, {"column": column}, retilted, whole, tilts)
        for thing in odd_things() + [TILTS]:
            self.raises(NotTilted, {}, retilted, uneven((2, 2), lots_of(2), 1), thing)
            self.raises(NotTilted, {}, retilted, uneven((2, 2), [(0,), (0, 1)], 1), thing)
            self.raises(NotTilted, {}, retilted, uneven((2, 2, 2), [(), (0,)], 1), thing)
            self.raises(NotClosed, {"pattern": (0,)}, retilted, uneven((2, 2), [(), (0, 1)], 1), thing)
            self.raises(NotClosed, {"pattern": (0, 1)}, retilted, tilted((2, 2), [(), (0,)], TILTS, 1), thing)
            self.raises(NotClosed, {"pattern": (0,)}, retilted, uneven((2,), [()], 1), thing)


class Between(Checks):
    def test_quotients_of_tilts(self):
        for sizes in SOME_SIZES:
            for place, own in enumerate(families_for(sizes)):
                tilts = drawn_tilts(sizes, place + 1)
                others = drawn_tilts(sizes, place + 30)
                whole = tilted(sizes, own, tilts, place + 1)
                answer = tuple(tuple(as_pair(Fraction(*other) / Fraction(*one)) for other, one in zip(line, lines))
                               for line, lines in zip(tilts_that_count(sizes, own, others),
                                                      tilts_that_count(sizes, own, tilts)))
                self.tells(answer, tilts_between, whole, tilted_whole(hidden(whole), others))
                self.tells(ones(sizes), tilts_between, whole, whole)
                self.tells(tilts_that_count(sizes, own, tilts), tilts_between, calm_part(whole), whole)

    def test_by_hand(self):
        one = tilted_whole(ONE, (((1, 1), (3, 1)),))
        other = tilted_whole(ONE, (((1, 1), (1, 2)),))
        self.tells((((1, 1), (1, 6)),), tilts_between, one, other)
        self.tells((((1, 1), (6, 1)),), tilts_between, other, one)

    def test_families_that_are_not_closed(self):
        # Hidden alike and tilted both, though their family is not closed.
        one = weighed((2,), [()], [1, 2])
        other = weighed((2,), [()], [3, 1])
        self.tells((((1, 1), (1, 1)),), tilts_between, one, other)
        self.raises(NotAlike, {}, tilts_between, one, bare_whole())

    def test_other_sizes(self):
        whole = tilted((2, 2), lots_of(2), TILTS, 1)
        untilted = uneven((2, 2), lots_of(2), 1)
        for sizes in [(2,), (2, 3), (3, 2), (2, 2, 2), (4, 4, 4)]:
            for own in (whole, untilted):
                self.raises(OtherSizes, {}, tilts_between, own, uneven(sizes, lots_of(len(sizes)), 1))
                self.raises(OtherSizes, {}, tilts_between, own, woven(sizes, lots_of(len(sizes)), 1))
        for thing in odd_things() + [hidden(whole), whole.shares, (whole.sizes, whole.shares), [whole]]:
            self.raises(OtherSizes, {}, tilts_between, whole, thing)
            self.raises(OtherSizes, {}, tilts_between, untilted, thing)

    def test_not_tilted_either_of_them(self):
        whole = tilted((2, 2), lots_of(2), TILTS, 1)
        untilted = uneven((2, 2), lots_of(2), 1)
        self.raises(NotTilted, {}, tilts_between, whole, untilted)
        self.raises(NotTilted, {}, tilts_between, untilted, whole)
        self.raises(NotTilted, {}, tilts_between, untilted, untilted)
        self.raises(NotTilted, {}, tilts_between, untilted, uneven((2, 2), lots_of(2), 2))
        self.raises(NotTilted, {}, tilts_between, calm_part(untilted), untilted)

    def test_not_alike(self):
        whole = tilted((2, 2), lots_of(2), TILTS, 1)
        for other in [tilted((2, 2), lots_of(2), TILTS, 2), tilted((2, 2), lots_of(2)[1:], TILTS, 1),
                      uneven((2, 2), [(0, 1)], 1),
                      uneven((2, 2), [()], 1)]:
            self.raises(NotAlike, {}, tilts_between, whole, other)
            self.raises(NotAlike, {}, tilts_between, other, whole)


class Large(Checks):
    def test_tilts_and_shares_of_sixty_figures(self):
        for sizes in [(2,), (4,), (2, 2), (3, 3), (2, 2, 2)]:
            seen = seen_weighed(sizes, lots_of(len(sizes)), [SIXTY // 3, SIXTY // 7, SIXTY // 11, SIXTY - 10 ** 30, 1,
                                                             SIXTY])
            tilts = tuple(((1, 1),) + tuple(as_pair(Fraction(SIXTY - 17 * worth,
                                                             SIXTY // 2 + column)) for worth in range(1, size))
                          for column, size in enumerate(sizes))
            whole = tilted_whole(seen, tilts)
            self.assertEqual(hidden(whole), seen)
            self.assertEqual(tilts_by_the_book(whole), tilts)
            self.tells(tilts, tilts_of, whole)
            self.tells(calm_whole(seen), retilted, whole, ones(sizes))
            self.tells(tilts, tilts_between, calm_whole(seen), whole)

    def test_sixty_figures_and_four_columns(self):
        seen = seen_weighed((2, 2, 2, 2), lots_of(4), [SIXTY // 3, SIXTY // 7, SIXTY - 10 ** 30, 1, SIXTY])
        tilts = (((1, 1), (SIXTY, SIXTY - 1)), ((1, 1), (1, SIXTY)), ((1, 1), (SIXTY, 1)),
                 ((1, 1), (SIXTY - 10, SIXTY)))
        tilts = tuple(tuple(as_pair(Fraction(*tilt)) for tilt in line) for line in tilts)
        whole = tilted_whole(seen, tilts)
        self.assertEqual(hidden(whole), seen)
        self.assertEqual(tilts_of(whole), tilts)
        self.assertEqual(retilted(whole, ones((2, 2, 2, 2))), calm_whole(seen))

    def test_what_was_told_may_be_passed_on_whatever_its_size(self):
        whole = tilted_whole(ONE, (((1, 1), (3, 1)),))
        for place in range(90):
            whole = mixed(whole, uneven((2,), lots_of(1), place), (SIXTY - 2, SIXTY))
        tilts = tilts_of(whole)
        self.assertGreater(tilts[0][1][1].bit_length(), 16000)
        self.assertEqual(tilts_by_the_book(whole), tilts)
        self.assertEqual(tilted_whole(hidden(whole), tilts), whole)
        told = tilted_whole(ONE, tilts)
        self.tells(tilts, tilts_of, told)
        self.tells(tilted_whole(ONE, (((1, 1), (3, 1)),)), retilted, told, (((1, 1), (3, 1)),))
        self.raises(BadTilts, {"column": 0}, tilted_whole, ONE, (((1, 1), (tilts[0][1][0] * 2, tilts[0][1][1] * 2)),))

    def test_nothing_passed_is_changed(self):
        whole = tilted((2, 2), lots_of(2), TILTS, 1)
        before = frozen([whole, SEEN, TILTS])
        for function, *arguments in [(tilted_whole, SEEN, TILTS), (tilts_of, whole), (retilted, whole, TILTS),
                                     (tilts_between, whole, whole)]:
            self.assertEqual(frozen(function(*arguments)), frozen(function(*arguments)))
        self.assertEqual(frozen([whole, SEEN, TILTS]), before)


class Chosen(Checks):
    def test_tilts_that_differ_in_one_worth_alone(self):
        for sizes in [(3,), (2, 3)]:
            seen = seen_weighed(sizes, lots_of(len(sizes)), [3, 1, 4, 1, 5])
            wholes = []
            for lines in itertools.product(*[[((1, 1),) * size, ((1, 1),) * (size - 1) + ((2, 1),)] for size in sizes]):
                wholes.append(tilted_whole(seen, lines))
                self.assertEqual(tilts_of(wholes[-1]), lines)
            for one, other in itertools.combinations(wholes, 2):
                self.assertNotEqual(one, other)
                self.assertEqual(hidden(one), hidden(other))


if __name__ == "__main__":
    unittest.main()
