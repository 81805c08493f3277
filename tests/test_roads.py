"""Roads, open and not, and lots of things that are parted (2.3)."""

import itertools
import unittest
from fractions import Fraction

from calmblanks.errors import NoLots
from calmblanks.roads import are_parted, is_open_road, open_road
from calmblanks.webs import Web
from tests.helper import (SIXTY, Checks, altered, cells, fitting, lots_of, odd_numbers, odd_things, picked_webs, webs_of)
from tests.test_webs import fullest

CROSSED = Web(2, ((0, 3), (1, 2)))
# 0 -> 1 -> 3 -> 5, 2 -> 3, 2 -> 4: in a row, away from one, and to one with another behind it.
TREE = Web(3, ((0, 1), (1, 3), (2, 3), (2, 4), (3, 5)))


def all_behind(web, thing):
    found = set()
    for _ in range(2 * web.columns):
        found |= {head for tail, head in web.arrows if tail == thing or tail in found}
    return found


def all_roads(web):
    """All roads: of all tuples of unlike things those with each two neighbours joined."""
    things = range(2 * web.columns)
    joined = set(web.arrows) | {(head, tail) for tail, head in web.arrows}
    return [road for many in range(1, 2 * web.columns + 1) for road in itertools.permutations(things, many)
            if all(pair in joined for pair in zip(road, road[1:]))]


def stays_open(web, given, road):
    """As the document says it."""
    if road[0] in given or road[-1] in given:
        return False
    for ahead, thing, following in zip(road, road[1:], road[2:]):
        if (ahead, thing) in web.arrows and (following, thing) in web.arrows:
            if thing not in given and not all_behind(web, thing) & set(given):
                return False
        elif thing in given:
            return False
    return True


def parted_another_way(web, one, other, given):
    """Of the things asked of and all ahead of them: parents of one child joined, arrows taken as lines, the given left
    out, nothing leads from the one lot to the other."""
    asked = set(one) | set(other) | set(given)
    kept = {thing for thing in range(2 * web.columns) if thing in asked or all_behind(web, thing) & asked}
    lines = {(tail, head) for tail, head in web.arrows if tail in kept and head in kept}
    lines |= {(tail, second) for tail, head in lines for second, same in lines if head == same}
    lines |= {(head, tail) for tail, head in lines}
    reached = set(one)
    for _ in kept:
        reached |= {head for tail, head in lines if tail in reached and head not in given}
    return not reached & set(other)


def three_lots(things):
    """All three lots of so many things, none in two of them."""
    for places in itertools.product(range(4), repeat=things):
        yield tuple(tuple(thing for thing in range(things) if places[thing] == lot) for lot in range(3))


def some_lots(things, start, step):
    return list(itertools.islice(three_lots(things), start, None, step))


def hang(whole, one, other, given):
    """Whether the worths of two lots hang on one another, those of the third being told."""
    def sums(*lots):
        found = {}
        for key, fraction in whole.shares:
            worths = cells(key)
            picked = tuple(tuple(worths[thing] for thing in lot) for lot in lots)
            found[picked] = found.get(picked, 0) + Fraction(*fraction)
        return found
    both, left, right, alone = sums(one, other, given), sums(one, given), sums(other, given), sums(given)
    return any(both.get((a, b, c), 0) * alone[c,] != left[a, c] * right[b, c]
               for a, c in left for b, same in right if same == c)


class ByHand(Checks):
    def road(self, road, web, one, other, given):
        self.tells(road, open_road, web, one, other, given)
        self.tells(road is None, are_parted, web, one, other, given)
        if road is not None:
            self.tells(True, is_open_road, web, one, other, given, road)

    def test_the_example(self):
        self.tells(True, are_parted, CROSSED, (0,), (2,), ())
        self.road(None, CROSSED, (0,), (2,), ())
        self.road((0, 3), CROSSED, (0,), (3,), ())
        self.road(None, CROSSED, (0, 3), (1, 2), ())

    def test_in_a_row(self):
        web = Web(2, ((0, 2), (2, 3)))
        self.road((0, 2, 3), web, (0,), (3,), ())
        self.road((3, 2, 0), web, (3,), (0,), ())
        self.road(None, web, (0,), (3,), (2,))
        self.road((0, 2, 3), web, (0,), (3,), (1,))

    def test_away_from_one(self):
        web = Web(2, ((0, 2), (0, 3)))
        self.road((2, 0, 3), web, (2,), (3,), ())
        self.road(None, web, (2,), (3,), (0,))

    def test_to_one(self):
        web = Web(2, ((0, 2), (1, 2)))
        self.road(None, web, (0,), (1,), ())
        self.road((0, 2, 1), web, (0,), (1,), (2,))
        self.road(None, web, (0,), (1,), (3,))

    def test_to_one_with_something_given_behind_it(self):
        web = Web(2, ((0, 2), (1, 2), (2, 3)))
        self.road(None, web, (0,), (1,), ())
        self.road((0, 2, 1), web, (0,), (1,), (3,))
        self.road((0, 2, 1), web, (0,), (1,), (2, 3))
        web = Web(3, ((0, 3), (1, 3), (3, 4), (4, 5)))
        self.road((0, 3, 1), web, (0,), (1,), (5,))

    def test_longer_ones(self):
        self.road(None, TREE, (0,), (4,), ())
        self.road((0, 1, 3, 2, 4), TREE, (0,), (4,), (5,))
        self.road(None, TREE, (0,), (4,), (2, 5))
        self.road(None, TREE, (0,), (4,), (1, 5))
        self.road((1, 3, 2, 4), TREE, (1,), (4,), (3,))
        self.road((4, 2, 3, 5), TREE, (4,), (5,), (0, 1))

    def test_no_arrows(self):
        for columns in (1, 2, 3, 4):
            web = Web(columns, ())
            for one, other, given in some_lots(2 * columns, 0, 4 ** columns // 3 * 2 + 1):
                self.road(None, web, one, other, given)

    def test_empty_lots(self):
        for web in webs_of(1) + webs_of(2)[::20] + [Web(4, fullest(4))]:
            for lot in lots_of(2 * web.columns)[::3]:
                self.road(None, web, (), lot, ())
                self.road(None, web, lot, (), ())
                self.road(None, web, (), (), lot)

    def test_as_many_arrows_as_there_can_be(self):
        for columns in (1, 2, 3, 4):
            web = Web(columns, fullest(columns))
            for one, other in itertools.permutations(range(2 * columns), 2):
                given = tuple(thing for thing in range(2 * columns) if thing not in (one, other))
                self.road((one, other), web, (one,), (other,), given)
                self.road((one, other), web, (one,), (other,), ())

    def test_one_column(self):
        self.road((0, 1), Web(1, ((0, 1),)), (0,), (1,), ())
        self.road((1, 0), Web(1, ((0, 1),)), (1,), (0,), ())
        self.road(None, Web(1, ()), (0,), (1,), ())


class AnotherWay(Checks):
    def check(self, web, roads, one, other, given):
        right = [road for road in roads if road[0] in one and road[-1] in other and stays_open(web, given, road)]
        found = open_road(web, one, other, given)
        if found is None:
            self.assertEqual(right, [])
        else:
            self.assertIs(found.__class__, tuple)
            self.assertIn(found, right)
        self.assertIs(are_parted(web, one, other, given), found is None)
        self.assertEqual(parted_another_way(web, one, other, given), found is None)

    def test_all_webs_of_one_and_two_columns(self):
        for web in webs_of(1) + webs_of(2):
            roads = all_roads(web)
            for one, other, given in three_lots(2 * web.columns):
                if one and other and one[0] < other[0]:
                    self.check(web, roads, one, other, given)

    def test_the_other_way_round(self):
        for web in webs_of(2)[::7] + picked_webs(3, 5):
            for one, other, given in some_lots(2 * web.columns, 3, 29):
                self.assertIs(are_parted(web, one, other, given), are_parted(web, other, one, given))

    def test_three_columns(self):
        for place, web in enumerate(picked_webs(3, 20)):
            roads = all_roads(web)
            for one, other, given in some_lots(6, place, 97):
                self.check(web, roads, one, other, given)

    def test_four_columns(self):
        for place, web in enumerate(picked_webs(4, 20)):
            for one, other, given in some_lots(8, 11 * place, 977):
                told = are_parted(web, one, other, given)
                self.assertIs(told, parted_another_way(web, one, other, given))
                found = open_road(web, one, other, given)
                self.assertEqual(found is None, told)
                self.assertTrue(told or stays_open(web, given, found))
                self.assertTrue(told or is_open_road(web, one, other, given, found))

    def test_each_road_judged(self):
        for place, web in enumerate(webs_of(1) + webs_of(2) + picked_webs(3, 5)):
            things = range(2 * web.columns)
            roads = set(all_roads(web))
            lots = some_lots(len(things), place % 5, 4 ** len(things) // 10 + 7)
            for many in (1, 2, 3, 4):
                for thing in itertools.product(things, repeat=many):
                    for one, other, given in lots:
                        right = (thing in roads and thing[0] in one and thing[-1] in other
                                 and stays_open(web, given, thing))
                        self.assertIs(is_open_road(web, one, other, given, thing), right)


class Judging(Checks):
    def test_what_is_no_open_road(self):
        for thing in [(), (0,), (5,), (0, 1, 3, 2), (0, 3, 2, 4), (0, 1, 3, 2, 4, 2), (0, 1, 0, 1, 3, 2, 4), (4, 2, 3, 1, 0),
                      (0, 1, 3, 3, 2, 4), (0, 1, 3, 5, 3, 2, 4), (0, 6, 4), (-6, 1, 3, 2, 4), (0, 1, -3, 2, 4), (0, SIXTY, 4),
                      (0, 1, 3, 2, 4) * 4000, [0, 1, 3, 2, 4], {0: 1, 4: 2}, "01324", b"\x00\x04", 0, range(5)]:
            self.tells(False, is_open_road, TREE, (0,), (4,), (5,), thing)
        self.tells(True, is_open_road, TREE, (0,), (4,), (5,), (0, 1, 3, 2, 4))
        self.tells(False, is_open_road, TREE, (0,), (4,), (), (0, 1, 3, 2, 4))
        self.tells(False, is_open_road, TREE, (0,), (4,), (2, 5), (0, 1, 3, 2, 4))

    def test_roads_of_which_an_end_is_elsewhere(self):
        self.tells(False, is_open_road, TREE, (0,), (2,), (5,), (0, 1, 3, 2, 4))
        self.tells(False, is_open_road, TREE, (1,), (4,), (5,), (0, 1, 3, 2, 4))
        self.tells(True, is_open_road, TREE, (0, 2), (4,), (5,), (0, 1, 3, 2, 4))
        self.tells(True, is_open_road, TREE, (0, 1), (3, 4), (5,), (0, 1, 3, 2, 4))
        self.tells(False, is_open_road, TREE, (), (4,), (5,), (0, 1, 3, 2, 4))

    def test_a_thing_that_comes_twice(self):
        self.tells(False, is_open_road, TREE, (1,), (3,), (), (1, 0, 1, 3))
        self.tells(False, is_open_road, TREE, (0,), (1,), (), (0, 1, 0, 1))
        self.tells(False, is_open_road, TREE, (2,), (4,), (), (2, 4, 2, 4))
        self.tells(False, is_open_road, TREE, (1,), (2,), (5,), (1, 3, 5, 3, 2))
        self.tells(True, is_open_road, TREE, (1,), (2,), (5,), (1, 3, 2))

    def test_things_of_other_kinds(self):
        for thing in odd_things():
            self.tells(False, is_open_road, TREE, (0,), (4,), (5,), thing)
        for _, thing in altered((0, 1, 3, 2, 4)):
            self.tells(False, is_open_road, TREE, (0,), (4,), (5,), thing)
        self.tells(False, is_open_road, Web(1, ((0, 1),)), (0,), (1,), (), (False, True))
        self.tells(False, is_open_road, Web(1, ((0, 1),)), (0,), (1,), (), (0, True))


class WrongLots(Checks):
    def wrong(self, web, one, other, given):
        self.raises(NoLots, {}, open_road, web, one, other, given)
        self.raises(NoLots, {}, are_parted, web, one, other, given)
        for thing in ((0, 3), None):
            self.raises(NoLots, {}, is_open_road, web, one, other, given, thing)

    def test_what_are_no_lots(self):
        for lot in odd_things() + [0, 1, [], [1], (1, 0), (0, 0), (4,), (-1,), (0, 4), (SIXTY,), (-SIXTY,), (True,), (0, True),
                                   ("0",), (None,), ((0,),), (0, 1, 2, 3, 4), range(1), {0: 0}, "0", b"\x00"]:
            if lot != ():
                self.wrong(CROSSED, lot, (3,), ())
                self.wrong(CROSSED, (3,), lot, ())
                self.wrong(CROSSED, (), (3,), lot)
                self.wrong(CROSSED, lot, lot, lot)

    def test_anything_within_of_another_kind(self):
        for _, lot in altered((0, 1)):
            self.wrong(CROSSED, lot, (3,), ())
            self.wrong(CROSSED, (2,), lot, (3,))
            self.wrong(CROSSED, (2,), (3,), lot)

    def test_things_in_two_of_them(self):
        for web in (Web(1, ()), CROSSED, Web(4, fullest(4))):
            self.wrong(web, (0,), (0,), ())
            self.wrong(web, (0, 1), (1,), ())
            self.wrong(web, (0,), (1,), (0,))
            self.wrong(web, (0,), (1,), (1,))
            self.wrong(web, (), (0, 1), (1,))
            self.wrong(web, (1,), (), (0, 1))
            self.wrong(web, (0,), (0,), (0,))

    def test_things_of_more_columns(self):
        for columns in (1, 2, 3, 4):
            self.wrong(Web(columns, ()), (2 * columns,), (0,), ())
            self.wrong(Web(columns, ()), (0,), (2 * columns,), ())
            self.wrong(Web(columns, ()), (0,), (), (2 * columns,))
            self.tells(True, are_parted, Web(columns, ()), (0,), (2 * columns - 1,), ())

    def test_numbers_as_lots(self):
        for lot in odd_numbers():
            if lot not in ((), (0,), (0, 1)):
                self.wrong(CROSSED, lot, (3,), ())


class TheFact(Checks):
    def test_parted_lots_do_not_hang_on_one_another(self):
        for place, web in enumerate(webs_of(1) + webs_of(2)[::3] + picked_webs(3, 5)):
            sizes = (2, 3, 2)[:web.columns]
            whole = fitting(web, sizes, place + 1)
            for one, other, given in some_lots(2 * web.columns, place % 3, 4 ** (2 * web.columns) // 30 + 1):
                if one and other:
                    # What is drawn hangs on one another wherever it may.
                    self.assertEqual(hang(whole, one, other, given), not are_parted(web, one, other, given))


if __name__ == "__main__":
    unittest.main()
