"""Webs: arrows, parents, children, what is behind, orders (2.1)."""

import itertools
import unittest
import unittest.mock

from calmblanks.errors import BadWeb, NoThing
from calmblanks.webs import Web, behind, children, order, parents
from tests.helper import SIXTY, Checks, altered, has_ring, odd_numbers, odd_things, picked_webs, webs_of

CROSSED = ((0, 3), (1, 2))


def fullest(columns):
    """As many arrows as there can be."""
    ends = range(2 * columns)
    return tuple((tail, head) for tail in ends for head in ends
                 if head >= columns > tail and tail < columns or tail < head and (tail < columns) == (head < columns))


def some_webs():
    return webs_of(1) + webs_of(2) + picked_webs(3, 50) + picked_webs(4, 50)


class Webs(Checks):
    def test_attributes(self):
        self.assertEqual(vars(Web(2, CROSSED)), {"columns": 2, "arrows": CROSSED})

    def test_no_arrows(self):
        for columns in (1, 2, 3, 4):
            self.assertEqual(vars(Web(columns, ())), {"columns": columns, "arrows": ()})

    def test_as_many_arrows_as_there_can_be(self):
        for columns, many in [(1, 1), (2, 6), (3, 15), (4, 28)]:
            arrows = fullest(columns)
            self.assertEqual(len(arrows), many)
            self.assertEqual(Web(columns, arrows).arrows, arrows)

    def test_all_webs_of_two_columns(self):
        ends = [(0, 1), (0, 2), (0, 3), (1, 0), (1, 2), (1, 3), (2, 3), (3, 2)]
        right = 0
        for many in range(9):
            for arrows in itertools.combinations(ends, many):
                if has_ring(4, arrows):
                    self.raises(BadWeb, {"part": "ring"}, Web, 2, arrows)
                else:
                    self.assertEqual(Web(2, arrows).arrows, arrows)
                    right += 1
        self.assertEqual(right, 144)

    def test_wrong_columns_come_first(self):
        for columns in odd_things() + [0, 5, -1, SIXTY, -SIXTY, "1", (1,), [1], b"1"]:
            self.raises(BadWeb, {"part": "columns"}, Web, columns, ())
            self.raises(BadWeb, {"part": "columns"}, Web, columns, None)

    def test_arrows_that_are_no_tuple(self):
        for arrows in odd_things() + [list(CROSSED), dict(CROSSED), iter(CROSSED), 0, 1]:
            if not isinstance(arrows, tuple):
                self.raises(BadWeb, {"part": "arrows"}, Web, 2, arrows)

    def test_the_first_item_that_is_no_arrow(self):
        wrong = [0, (), (0,), (0, 1, 2), [0, 3], (0, 0), (3, 3), (0, 4), (4, 0), (-1, 0), (0, -1), (2, 0), (3, 0), (3, 1),
                 (True, 3), (0, True), (False, 3), ("0", 3), (0, None), (0, SIXTY), (-SIXTY, 3), ((0, 3),), ([0], 3)]
        for item in wrong + odd_things():
            self.raises(BadWeb, {"part": 0}, Web, 2, (item, (0, 1), (0, 1)))
            self.raises(BadWeb, {"part": 1}, Web, 2, ((0, 3), item))
            self.raises(BadWeb, {"part": 2}, Web, 2, ((0, 3), (1, 2), item, None))

    def test_anything_within_of_another_kind(self):
        arrows = ((0, 1), (0, 2), (0, 3), (1, 3), (2, 3))
        for path, other in altered(arrows):
            if path:
                self.raises(BadWeb, {"part": path[0]}, Web, 2, other)

    def test_arrows_from_a_blank_to_a_column(self):
        for columns in (1, 2, 3, 4):
            for blank in range(columns, 2 * columns):
                for column in range(columns):
                    self.raises(BadWeb, {"part": 0}, Web, columns, ((blank, column),))
                    self.assertEqual(Web(columns, ((column, blank),)).arrows, ((column, blank),))

    def test_things_of_more_columns(self):
        for columns in (1, 2, 3):
            self.raises(BadWeb, {"part": 0}, Web, columns, ((0, 2 * columns),))
            self.assertEqual(Web(columns, ((0, 2 * columns - 1),)).columns, columns)

    def test_arrows_that_do_not_ascend(self):
        self.raises(BadWeb, {"part": 1}, Web, 2, ((0, 3), (0, 3)))
        self.raises(BadWeb, {"part": 1}, Web, 2, ((1, 2), (0, 3)))
        self.raises(BadWeb, {"part": 1}, Web, 2, ((0, 3), (0, 2)))
        self.raises(BadWeb, {"part": 2}, Web, 2, ((0, 2), (1, 2), (0, 3)))

    def test_rings(self):
        self.raises(BadWeb, {"part": "ring"}, Web, 2, ((0, 1), (1, 0)))
        self.raises(BadWeb, {"part": "ring"}, Web, 2, ((0, 2), (2, 3), (3, 2)))
        self.raises(BadWeb, {"part": "ring"}, Web, 3, ((0, 1), (1, 2), (2, 0)))
        self.raises(BadWeb, {"part": "ring"}, Web, 4, ((4, 5), (5, 6), (6, 7), (7, 4)))
        self.raises(BadWeb, {"part": "ring"}, Web, 4, ((0, 3), (1, 2), (2, 1), (3, 4)))

    def test_items_come_ahead_of_rings(self):
        self.raises(BadWeb, {"part": 2}, Web, 2, ((0, 1), (1, 0), (3, 0)))
        self.raises(BadWeb, {"part": 2}, Web, 2, ((0, 1), (1, 0), (1, 0)))

    def test_equal_if_columns_and_arrows_are(self):
        self.assertEqual(Web(2, CROSSED), Web(2, tuple(list(CROSSED))))
        self.assertFalse(Web(2, CROSSED) != Web(2, CROSSED))
        self.assertNotEqual(Web(2, ((0, 3),)), Web(3, ((0, 3),)))
        self.assertNotEqual(Web(1, ()), Web(2, ()))
        webs = webs_of(2)
        for place, web in enumerate(webs):
            self.assertEqual([other for other, own in enumerate(webs) if own == web], [place])

    def test_equal_to_nothing_else(self):
        web = Web(2, CROSSED)
        for thing in odd_things() + [(2, CROSSED), CROSSED, vars(web), 2, unittest.mock.ANY]:
            self.assertIs(web == thing, False)
            self.assertIs(web != thing, True)


class Neighbours(Checks):
    def test_by_hand(self):
        web = Web(3, ((0, 1), (0, 4), (1, 4), (2, 4), (3, 4), (4, 5)))
        for thing, above, below, all_below in [
                (0, (), (1, 4), (1, 4, 5)), (1, (0,), (4,), (4, 5)), (2, (), (4,), (4, 5)), (3, (), (4,), (4, 5)),
                (4, (0, 1, 2, 3), (5,), (5,)), (5, (4,), (), ())]:
            self.tells(above, parents, web, thing)
            self.tells(below, children, web, thing)
            self.tells(all_below, behind, web, thing)

    def test_no_arrows(self):
        for columns in (1, 2, 3, 4):
            for thing in range(2 * columns):
                for function in (parents, children, behind):
                    self.tells((), function, Web(columns, ()), thing)

    def test_worked_out_another_way(self):
        for web in some_webs():
            things = range(2 * web.columns)
            joined = {(one, other): (one, other) in web.arrows for one in things for other in things}
            for between, one, other in itertools.product(things, repeat=3):
                joined[one, other] = joined[one, other] or (joined[one, between] and joined[between, other])
            for thing in things:
                self.tells(tuple(own for own in things if (own, thing) in web.arrows), parents, web, thing)
                self.tells(tuple(own for own in things if (thing, own) in web.arrows), children, web, thing)
                self.tells(tuple(own for own in things if joined[thing, own]), behind, web, thing)

    def test_what_is_no_thing(self):
        for columns in (1, 2, 4):
            web = Web(columns, fullest(columns))
            for thing in odd_numbers() + [2 * columns, 2 * columns + 1, SIXTY, "1"]:
                for function in (parents, children, behind):
                    self.raises(NoThing, {}, function, web, thing)


class Orders(Checks):
    def test_by_hand(self):
        self.tells((0, 1, 2, 3), order, Web(2, CROSSED))
        self.tells((0, 1), order, Web(1, ((0, 1),)))
        self.tells((1, 0, 3, 2), order, Web(2, ((1, 0), (3, 2))))
        self.tells((2, 1, 0, 3, 5, 4), order, Web(3, ((1, 0), (2, 1), (5, 4))))
        self.tells((1, 2, 0, 3, 4, 5), order, Web(3, ((2, 0),)))
        self.tells((3, 2, 1, 0, 7, 6, 5, 4), order, Web(4, ((1, 0), (2, 1), (3, 2), (5, 4), (6, 5), (7, 6))))

    def test_no_arrows_and_all(self):
        for columns in (1, 2, 3, 4):
            self.tells(tuple(range(2 * columns)), order, Web(columns, ()))
            self.tells(tuple(range(2 * columns)), order, Web(columns, fullest(columns)))

    def test_the_first_of_all_orders(self):
        for web in webs_of(2) + picked_webs(3, 50):
            for line in itertools.permutations(range(2 * web.columns)):
                if all(line.index(tail) < line.index(head) for tail, head in web.arrows):
                    self.tells(line, order, web)
                    break


if __name__ == "__main__":
    unittest.main()
