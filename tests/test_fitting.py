"""Tables for a web, their product, wholes that fit and that don't (2.2)."""

import itertools
import unittest
from fractions import Fraction

from calmblanks.errors import BadSizes, BadTables, NotAll, OtherColumns
from calmblanks.tables import Whole, contents_alone, hidden, mixed, patterns_alone, share
from calmblanks.webs import Web, broken, is_fitting, order, parents, product, tables_of
from tests.helper import (SIXTY, Checks, altered, as_pair, bare_whole, cells, frozen, halves, keys_of, lots_of, numbers,
                          odd_things, picked_webs, uneven, webs_of, weighed)
from tests.test_contents import WRONG_SIZES
from tests.test_wholes import WRONG_FRACTIONS

BARE = Web(1, ())
OWN = Web(1, ((0, 1),))
LED = Web(2, ((0, 3), (2, 3)))
BARE_TABLES = ((((), ((1, 3), (2, 3))),), (((), ((3, 4), (1, 4))),))
OWN_TABLES = ((((), ((1, 3), (2, 3))),), (((0,), ((3, 4), (1, 4))), ((1,), ((1, 5), (4, 5)))))
LED_TABLES = (
    (((), ((1, 2), (1, 2))),),
    (((), ((1, 3), (2, 3))),),
    (((), ((3, 4), (1, 4))),),
    (((0, 0), ((1, 2), (1, 2))), ((0, 1), ((1, 5), (4, 5))), ((1, 0), ((2, 3), (1, 3))), ((1, 1), ((5, 6), (1, 6)))),
)


def some_tables(web, sizes, start):
    """Tables for a web and sizes, uneven, the same for the same start."""
    many = sizes + (2,) * len(sizes)
    dice = numbers(start)
    tables = []
    for thing in range(len(many)):
        lines = []
        for worths in itertools.product(*[range(many[parent]) for parent in parents(web, thing)]):
            weights = [next(dice) for _ in range(many[thing])]
            lines.append((worths, tuple(as_pair(Fraction(weight, sum(weights))) for weight in weights)))
        tables.append(tuple(lines))
    return tuple(tables)


def multiplied(web, sizes, tables):
    """The product by Python's fractions."""
    shares = []
    for key in keys_of(sizes, lots_of(len(sizes))):
        worths = cells(key)
        told = Fraction(1)
        for thing, worth in enumerate(worths):
            line = dict(tables[thing])[tuple(worths[tail] for tail, head in sorted(web.arrows) if head == thing)]
            told *= Fraction(*line[worth])
        shares.append((key, as_pair(told)))
    return Whole(sizes, tuple(shares))


def given(whole, thing, others):
    """By Python's fractions: the shares of a thing's worths, for each tuple of worths of others."""
    sums = {}
    for key, fraction in whole.shares:
        worths = cells(key)
        line = sums.setdefault(tuple(worths[other] for other in others), {})
        line[worths[thing]] = line.get(worths[thing], 0) + Fraction(*fraction)
    return {worths: {worth: own / sum(line.values()) for worth, own in line.items()} for worths, line in sums.items()}


def first_broken(web, whole):
    """As the document says it: two kinds of rows alike in the parents, unlike in the thing's shares."""
    line = order(web)
    for place, thing in enumerate(line):
        told = given(whole, thing, line[:place])
        above = [line.index(parent) for parent in parents(web, thing)]
        for one, other in itertools.combinations(told, 2):
            if all(one[at] == other[at] for at in above) and told[one] != told[other]:
                return thing
    return None


def cases():
    for web in webs_of(1):
        yield web, (2,)
        yield web, (4,)
    for place, web in enumerate(webs_of(2)):
        yield web, [(2, 2), (2, 3), (4, 2)][place % 3]
    for web in picked_webs(3, 10):
        yield web, (2, 3, 2)
    for web in picked_webs(4, 5):
        yield web, (2, 2, 2, 2)


class Products(Checks):
    def test_no_arrows(self):
        answer = ((((0,), ()), (1, 12)), (((0,), (0,)), (1, 4)), (((1,), ()), (1, 6)), (((1,), (0,)), (1, 2)))
        self.tells(Whole((2,), answer), product, BARE, (2,), BARE_TABLES)

    def test_a_blank_that_hangs_on_its_column(self):
        answer = ((((0,), ()), (1, 12)), (((0,), (0,)), (1, 4)), (((1,), ()), (8, 15)), (((1,), (0,)), (2, 15)))
        self.tells(Whole((2,), answer), product, OWN, (2,), OWN_TABLES)

    def test_a_blank_that_hangs_on_a_column_and_its_blank(self):
        whole = product(LED, (2, 2), LED_TABLES)
        self.tells((1, 16), share, whole, ((0, 0), (0, 1)))
        self.tells((1, 16), share, whole, ((0, 0), (0,)))
        self.tells((1, 120), share, whole, ((0, 0), (1,)))
        self.tells((1, 30), share, whole, ((0, 0), ()))
        self.tells((1, 6), share, whole, ((1, 1), (0, 1)))
        self.tells((1, 72), share, whole, ((1, 1), ()))

    def test_parents_stand_as_they_ascend(self):
        # The column 1 leads to 0, whose line for the worth 2 of column 1 is told alone.
        web = Web(2, ((1, 0), (1, 2)))
        tables = (
            (((0,), ((1, 2), (1, 2))), ((1,), ((1, 3), (2, 3))), ((2,), ((1, 4), (3, 4)))),
            (((), ((1, 5), (2, 5), (2, 5))),),
            (((0,), ((1, 2), (1, 2))), ((1,), ((1, 7), (6, 7))), ((2,), ((1, 9), (8, 9)))),
            (((), ((1, 2), (1, 2))),),
        )
        whole = product(web, (2, 3), tables)
        self.tells((1, 180), share, whole, ((0, 2), (0, 1)))
        self.tells((2, 15), share, whole, ((1, 2), (1,)))

    def test_worked_out_another_way(self):
        for web, sizes in cases():
            tables = some_tables(web, sizes, 3)
            self.tells(multiplied(web, sizes, tables), product, web, sizes, tables)

    def test_the_most_contents(self):
        for sizes in [(4, 4, 4), (4, 2, 2, 4)]:
            web = Web(len(sizes), ((0, 1), (0, len(sizes) + 1), (len(sizes), len(sizes) + 1)))
            tables = some_tables(web, sizes, 5)
            whole = product(web, sizes, tables)
            self.assertEqual(whole, multiplied(web, sizes, tables))
            self.tells(True, is_fitting, web, whole)

    def test_sixty_digits(self):
        fractions = ((1, SIXTY), (SIXTY - 1, SIXTY))
        other = ((2, SIXTY), (SIXTY - 2, SIXTY))
        tables = ((((), fractions),), (((0,), other), ((1,), fractions)))
        whole = product(OWN, (2,), tables)
        self.tells(as_pair(Fraction(SIXTY - 2, SIXTY * SIXTY)), share, whole, ((0,), ()))
        self.tells(tables, tables_of, OWN, whole)
        self.tells(None, broken, OWN, whole)
        self.tells(1, broken, BARE, whole)

    def test_errors_come_in_their_order(self):
        self.raises(BadSizes, {}, product, BARE, (2, 1), None)
        self.raises(OtherColumns, {}, product, BARE, (2, 2), None)
        self.raises(BadTables, {"thing": -1}, product, BARE, (2,), None)

    def test_wrong_sizes(self):
        for sizes in WRONG_SIZES + odd_things():
            self.raises(BadSizes, {}, product, BARE, sizes, BARE_TABLES)
            self.raises(BadSizes, {}, product, Web(4, ()), sizes, BARE_TABLES)

    def test_other_columns(self):
        for sizes in [(2, 2), (2, 2, 2), (2, 2, 2, 2)]:
            self.raises(OtherColumns, {}, product, BARE, sizes, BARE_TABLES)
        self.raises(OtherColumns, {}, product, LED, (2,), LED_TABLES)

    def test_no_tuple_of_as_many(self):
        wrong = [(), LED_TABLES[:3], LED_TABLES + LED_TABLES[:1], LED_TABLES[:1], list(LED_TABLES), dict(LED_TABLES[3]),
                 BARE_TABLES]
        for tables in wrong + [thing for thing in odd_things() if not isinstance(thing, tuple) or len(thing) != 4]:
            self.raises(BadTables, {"thing": -1}, product, LED, (2, 2), tables)


class WrongTables(Checks):
    def wrong(self, thing, table):
        tables = LED_TABLES[:thing] + (table,) + LED_TABLES[thing + 1:]
        self.raises(BadTables, {"thing": thing}, product, LED, (2, 2), tables)

    def test_tables_of_another_kind(self):
        for thing in range(4):
            for table in odd_things() + [(), 0, list(LED_TABLES[thing]), LED_TABLES[thing][:-1], LED_TABLES[thing] * 2,
                                         dict(LED_TABLES[thing]), LED_TABLES[thing][0]]:
                self.wrong(thing, table)

    def test_lines_of_another_kind(self):
        for thing in range(4):
            for line in odd_things() + [(), 0, list(LED_TABLES[thing][0]), LED_TABLES[thing][0][:1],
                                        LED_TABLES[thing][0] + ((),), LED_TABLES[thing][0][::-1]]:
                self.wrong(thing, (line,) + LED_TABLES[thing][1:])
                self.wrong(thing, LED_TABLES[thing][:-1] + (line,))

    def test_anything_within_of_another_kind(self):
        for path, tables in altered(LED_TABLES):
            if path:
                self.raises(BadTables, {"thing": path[0]}, product, LED, (2, 2), tables)

    def test_worths_other_than_those_of_the_parents(self):
        zero, one, two, three = LED_TABLES[3]
        for table in [(one, zero, two, three), (zero, one, two), (zero, zero, two, three), (zero, one, two, two),
                      (zero, one, two, three, three), (zero, two, one, three), (zero, one, two, ((1, 2), three[1])),
                      (zero, one, two, ((1,), three[1])), (zero, one, two, ((1, 1, 0), three[1])),
                      (zero, one, two, ((), three[1])), (zero, one, two, ((True, True), three[1])),
                      (zero, one, two, ([1, 1], three[1])), ((zero[0], zero[1]), ((False, 1), one[1]), two, three)]:
            self.wrong(3, table)
        self.wrong(0, (((0,), ((1, 2), (1, 2))),))
        self.wrong(2, (((0,), ((1, 2), (1, 2))), ((1,), ((1, 2), (1, 2)))))

    def test_shares_that_are_not_as_many_as_worths(self):
        for shares in [(), ((1, 1),), ((1, 3), (1, 3), (1, 3)), ((1, 2), (1, 4), (1, 4)), [(1, 2), (1, 2)], ((1, 1), (0, 1))]:
            for thing in range(4):
                line = LED_TABLES[thing][0]
                self.wrong(thing, ((line[0], shares),) + LED_TABLES[thing][1:])
        two = (((), ((1, 2), (1, 2))),)
        self.raises(BadTables, {"thing": 0}, product, BARE, (3,), (two, two))
        three = (((), ((1, 3), (1, 3), (1, 3))),)
        self.raises(BadTables, {"thing": 1}, product, BARE, (3,), (three, three))
        self.assertEqual(len(product(BARE, (3,), (three, two)).shares), 6)

    def test_shares_that_are_no_fractions_above_0(self):
        for fraction in WRONG_FRACTIONS:
            for thing in range(4):
                line = LED_TABLES[thing][-1]
                for shares in [(fraction, line[1][1]), (line[1][0], fraction)]:
                    self.wrong(thing, LED_TABLES[thing][:-1] + ((line[0], shares),))

    def test_shares_with_another_sum(self):
        for shares in [((1, 2), (1, 3)), ((1, 2), (2, 3)), ((1, 1), (1, 1)), ((SIXTY - 1, SIXTY), (1, SIXTY - 1)),
                       ((3, 2), (-1, 2))]:
            for thing in range(4):
                line = LED_TABLES[thing][0]
                self.wrong(thing, ((line[0], shares),) + LED_TABLES[thing][1:])

    def test_the_first_wrong_thing(self):
        for things in itertools.combinations(range(4), 2):
            tables = tuple(None if thing in things else LED_TABLES[thing] for thing in range(4))
            self.raises(BadTables, {"thing": things[0]}, product, LED, (2, 2), tables)

    def test_tables_for_another_web(self):
        self.raises(BadTables, {"thing": 1}, product, BARE, (2,), OWN_TABLES)
        self.raises(BadTables, {"thing": 1}, product, OWN, (2,), BARE_TABLES)
        self.raises(BadTables, {"thing": 3}, product, Web(2, ((0, 3),)), (2, 2), LED_TABLES)


class Broken(Checks):
    def test_one_column(self):
        whole = product(OWN, (2,), OWN_TABLES)
        self.tells(1, broken, BARE, whole)
        self.tells(None, broken, OWN, whole)
        whole = product(BARE, (2,), BARE_TABLES)
        self.tells(None, broken, BARE, whole)
        self.tells(None, broken, OWN, whole)

    def test_what_hangs_on_what(self):
        whole = product(LED, (2, 2), LED_TABLES)
        for arrows, answer in [(((0, 3), (2, 3)), None), (((0, 3),), 3), (((2, 3),), 3), ((), 3), (((0, 3), (1, 2), (2, 3)), None),
                               (((0, 3), (3, 2)), 2), (((0, 2), (0, 3), (3, 2)), None), (((0, 1), (0, 2), (0, 3)), 3)]:
            self.tells(answer, broken, Web(2, arrows), whole)
            self.tells(answer is None, is_fitting, Web(2, arrows), whole)

    def test_the_first_in_the_order_of_the_web(self):
        # Here everything hangs on everything, so the first is that behind another that is no parent of it.
        whole = uneven((2, 2, 2), lots_of(3), 1)
        for arrows, answer in [((), 1), (((0, 1),), 2), (((2, 1),), 2), (((0, 2), (2, 1)), 1), (((1, 0),), 2),
                               (((2, 0),), 2), (((1, 2), (2, 0)), 0), (((0, 1), (0, 2), (1, 2)), 3)]:
            self.tells(answer, broken, Web(3, arrows), whole)

    def test_worked_out_as_the_document_says_it(self):
        for web, sizes in cases():
            own = product(web, sizes, some_tables(web, sizes, 7))
            everything = uneven(sizes, lots_of(len(sizes)), 7)
            for whole in (own, everything):
                self.assertEqual(broken(web, whole), first_broken(web, whole))

    def test_wholes_of_one_web_and_another(self):
        webs = webs_of(2)
        for place, web in enumerate(webs):
            whole = product(web, (2, 2), some_tables(web, (2, 2), place))
            for other in webs[place % 7::7]:
                told = broken(other, whole)
                self.assertEqual(told, first_broken(other, whole))
                self.assertEqual(is_fitting(other, whole), told is None)
                fits = whole == product(other, (2, 2), tables_of(other, whole))
                self.assertEqual(told is None, fits)

    def test_all_webs_of_one_order_fit_with_all_arrows(self):
        for columns, sizes in [(1, (4,)), (2, (2, 3)), (3, (2, 2, 2)), (4, (2, 2, 2, 2))]:
            things = range(2 * columns)
            arrows = tuple((tail, head) for tail in things for head in things if tail < head)
            whole = uneven(sizes, lots_of(columns), 9)
            self.tells(None, broken, Web(columns, arrows), whole)
            for place, (tail, head) in enumerate(arrows):
                fewer = Web(columns, arrows[:place] + arrows[place + 1:])
                self.assertEqual(broken(fewer, whole), first_broken(fewer, whole))
                self.assertIsNotNone(broken(fewer, whole))

    def test_a_whole_that_is_even_fits_all_webs(self):
        for web in webs_of(2) + picked_webs(4, 5):
            sizes = (2,) * web.columns
            self.tells(None, broken, web, weighed(sizes, lots_of(web.columns), [1]))

    def test_other_columns_come_ahead_of_not_all(self):
        part = uneven((2, 2), [(0,), (0, 1)], 1)
        for function in (broken, tables_of):
            self.raises(OtherColumns, {}, function, BARE, part)
            self.raises(OtherColumns, {}, function, BARE, uneven((2, 2), lots_of(2), 1))
            self.raises(OtherColumns, {}, function, LED, bare_whole())
            self.raises(NotAll, {}, function, LED, part)

    def test_not_all_patterns(self):
        for columns in (1, 2, 4):
            everything = lots_of(columns)
            for pattern in everything:
                left = [other for other in everything if other != pattern]
                for own in (left, [pattern]):
                    for function in (broken, tables_of):
                        self.raises(NotAll, {}, function, Web(columns, ()), uneven((2,) * columns, own, 1))


class Tables(Checks):
    def test_of_products(self):
        self.tells(BARE_TABLES, tables_of, BARE, product(BARE, (2,), BARE_TABLES))
        self.tells(OWN_TABLES, tables_of, OWN, product(OWN, (2,), OWN_TABLES))
        self.tells(LED_TABLES, tables_of, LED, product(LED, (2, 2), LED_TABLES))

    def test_of_a_whole_that_does_not_fit(self):
        whole = product(OWN, (2,), OWN_TABLES)
        self.tells(((((), ((1, 3), (2, 3))),), (((), ((23, 60), (37, 60))),)), tables_of, BARE, whole)

    def test_of_a_column_led_by_a_later_one(self):
        whole = weighed((2, 2), lots_of(2), [1, 1, 1, 1, 2, 2, 2, 2, 3, 3, 3, 3, 4, 4, 4, 4])
        half = (((), ((1, 2), (1, 2))),)
        answer = ((((0,), ((1, 4), (3, 4))), ((1,), ((1, 3), (2, 3)))), (((), ((2, 5), (3, 5))),), half, half)
        self.tells(answer, tables_of, Web(2, ((1, 0),)), whole)

    def test_worked_out_another_way(self):
        for web, sizes in cases():
            tables = some_tables(web, sizes, 11)
            self.tells(tables, tables_of, web, product(web, sizes, tables))
            whole = uneven(sizes, lots_of(len(sizes)), 13)
            answer = []
            for thing in range(2 * web.columns):
                told = given(whole, thing, parents(web, thing))
                answer.append(tuple((worths, tuple(as_pair(told[worths][worth]) for worth in sorted(told[worths])))
                                    for worths in sorted(told)))
            self.tells(tuple(answer), tables_of, web, whole)

    def test_they_may_be_passed_on(self):
        for web, sizes in list(cases())[::9]:
            whole = uneven(sizes, lots_of(len(sizes)), 17)
            near = product(web, sizes, tables_of(web, whole))
            self.tells(True, is_fitting, web, near)
            self.tells(tables_of(web, whole), tables_of, web, near)


class Fitting(Checks):
    def test_products_fit(self):
        for web, sizes in cases():
            self.tells(True, is_fitting, web, product(web, sizes, some_tables(web, sizes, 19)))

    def test_wholes_that_do_not(self):
        for web in webs_of(2):
            whole = uneven((2, 2), lots_of(2), 1)
            self.tells(len(web.arrows) == 6, is_fitting, web, whole)

    def test_other_columns_and_not_all_patterns(self):
        even = weighed((2, 2), lots_of(2), [1])
        self.tells(True, is_fitting, Web(2, ()), even)
        for columns in (1, 3, 4):
            self.tells(False, is_fitting, Web(columns, ()), even)
        for own in ([()], lots_of(2)[1:], lots_of(2)[:-1], [(0,), (1,)]):
            self.tells(False, is_fitting, Web(2, ()), weighed((2, 2), own, [1]))

    def test_other_things(self):
        whole = product(BARE, (2,), BARE_TABLES)
        for thing in odd_things() + [0, 1, (whole.sizes, whole.shares), whole.shares, vars(whole), hidden(whole), halves()]:
            self.tells(False, is_fitting, BARE, thing)


class LargeNumbers(Checks):
    def test_sixty_digits_and_many_arrows(self):
        sizes = (2, 2, 2)
        things = range(6)
        web = Web(3, tuple((tail, head) for tail in things for head in things if tail < head))
        tables = []
        bottom = SIXTY
        for thing in things:
            lines = []
            for worths in itertools.product(*[range(2)] * thing):
                bottom -= 2
                own = as_pair(Fraction(bottom // 3, bottom))
                lines.append((worths, (own, (own[1] - own[0], own[1]))))
            tables.append(tuple(lines))
        whole = product(web, sizes, tuple(tables))
        self.assertEqual(whole, multiplied(web, sizes, tuple(tables)))
        self.tells(tuple(tables), tables_of, web, whole)
        self.tells(None, broken, web, whole)
        self.tells(1, broken, Web(3, ()), whole)

    def test_what_was_told_may_be_passed_on_whatever_its_size(self):
        whole = product(OWN, (2,), OWN_TABLES)
        part = (SIXTY - 1, SIXTY)
        for _ in range(100):
            whole = mixed(whole, product(BARE, (2,), tables_of(BARE, whole)), part)
        fraction = share(whole, ((0,), ()))
        self.assertGreater(fraction[1].bit_length(), 10000)
        self.assertEqual(frozen(Whole(whole.sizes, whole.shares)), frozen(whole))
        self.tells(whole, mixed, whole, whole, part)
        self.tells(1, broken, BARE, whole)
        self.tells(True, is_fitting, OWN, product(OWN, (2,), tables_of(OWN, whole)))
        self.assertEqual(sum(Fraction(*own) for _, own in contents_alone(whole)), 1)
        self.assertEqual(patterns_alone(whole), patterns_alone(hidden(whole)))


if __name__ == "__main__":
    unittest.main()
