"""Columns tied to their own blanks (2.4)."""

import itertools
import unittest

from calmblanks.webs import Web, fewest_out, tied, ties, untied
from tests.helper import Checks, picked_webs, webs_of
from tests.test_webs import fullest

OWN = Web(1, ((0, 1),))
LED = Web(2, ((0, 3), (2, 3)))


def without(web, places):
    return Web(web.columns, tuple(arrow for place, arrow in enumerate(web.arrows) if place not in places))


def columns_tied(web):
    """As the document says it."""
    many = web.columns
    return tuple(column for column in range(many) if (column, many + column) in web.arrows or any(
        (column, blank) in web.arrows and (many + column, blank) in web.arrows for blank in range(many, 2 * many)))


class Ties(Checks):
    def test_the_examples(self):
        self.tells([((0, 1),)], ties, OWN)
        self.tells((0,), fewest_out, OWN)
        self.tells((0,), tied, OWN)
        self.tells(Web(1, ()), untied, OWN)
        self.tells([((0, 3), (2, 3))], ties, LED)
        self.tells((0,), fewest_out, LED)
        self.tells((0,), tied, LED)
        self.tells(Web(2, ((2, 3),)), untied, LED)

    def test_webs_without_ties(self):
        for columns, arrows in [(1, ()), (2, ()), (4, ()), (2, ((0, 3), (1, 2))), (2, ((0, 1), (0, 3), (3, 2))),
                                (2, ((0, 1), (2, 3))), (2, ((0, 3), (3, 2))), (3, ((0, 4), (0, 5), (1, 2), (4, 5)))]:
            web = Web(columns, arrows)
            self.tells([], ties, web)
            self.tells((), tied, web)
            self.tells((), fewest_out, web)
            self.tells(web, untied, web)

    def test_each_tie_alone(self):
        for columns in (1, 2, 3, 4):
            for column in range(columns):
                arrow = (column, columns + column)
                self.tells([(arrow,)], ties, Web(columns, (arrow,)))
                self.tells((column,), tied, Web(columns, (arrow,)))
                for other in range(columns):
                    if other != column:
                        tie = ((column, columns + other), (columns + column, columns + other))
                        self.tells([tie], ties, Web(columns, tie))
                        self.tells((column,), tied, Web(columns, tie))
                        self.tells((0,), fewest_out, Web(columns, tie))
                        self.tells(Web(columns, tie[1:]), untied, Web(columns, tie))
                        for arrow in tie:
                            self.tells([], ties, Web(columns, (arrow,)))

    def test_ties_ascend(self):
        web = Web(2, ((0, 2), (0, 3), (1, 2), (1, 3), (2, 3)))
        self.tells([((0, 2),), ((0, 3), (2, 3)), ((1, 3),)], ties, web)
        self.tells((0, 1), tied, web)
        self.tells((0, 1, 3), fewest_out, web)
        self.tells(Web(2, ((1, 2), (2, 3))), untied, web)

    def test_all_arrows_of_four_columns(self):
        web = Web(4, fullest(4))
        self.assertEqual(len(ties(web)), 10)
        self.tells((0, 1, 2, 3), tied, web)
        self.assertEqual(len(untied(web).arrows), 18)
        self.tells([], ties, untied(web))

    def test_ties_worked_out_another_way(self):
        for web in webs_of(1) + webs_of(2) + picked_webs(3, 30) + picked_webs(4, 30):
            many = web.columns
            own = [(arrow,) for arrow in web.arrows if arrow[1] == many + arrow[0]]
            pairs = [pair for pair in itertools.combinations(web.arrows, 2)
                     if pair[0][1] == pair[1][1] and pair[1][0] == many + pair[0][0] and pair[0][1] != pair[1][0]]
            self.tells(sorted(own + pairs), ties, web)
            self.tells(columns_tied(web), tied, web)

    def test_the_first_of_the_fewest_places(self):
        for web in webs_of(1) + webs_of(2) + [web for web in picked_webs(3, 30) + picked_webs(4, 8) if len(ties(web)) < 5]:
            lots = (lot for many in range(len(web.arrows) + 1)
                    for lot in itertools.combinations(range(len(web.arrows)), many))
            first = next(lot for lot in lots if columns_tied(without(web, lot)) == ())
            self.tells(first, fewest_out, web)
            self.tells(without(web, first), untied, web)


if __name__ == "__main__":
    unittest.main()
