"""What holds of all calls (0.2 to 0.5)."""

import itertools
import sys
import unittest
from fractions import Fraction

from calmblanks import (calm, couldbe, desk, families, joining, plainways, questions, reading, roads, store, strangers,
                        tables, telling, texts, tilts, webs)
from calmblanks.errors import BlankError
from calmblanks.tables import Seen, Whole
from calmblanks.webs import Web
from tests.helper import (ROWS, SIXTY, Checks, bare_whole, deep, fitting, frozen, halves, lots_of, odd_numbers, tilted,
                          uneven, weighed, woven)

SEEN = tables.seen_of_rows((2, 2), ROWS)
WHOLE = uneven((2, 2), lots_of(2), 1)
WEB = Web(2, ((0, 3), (1, 2), (2, 3)))
TABLES = webs.tables_of(WEB, WHOLE)
CALM = woven((2, 2), lots_of(2), 1)
CROSSED = Web(2, ((0, 3), (1, 2)))
TIED = Web(2, ((0, 2), (0, 3), (2, 3)))
TWINS = telling.twins(TIED, (2, 2))
TIE = ((0, 3), (2, 3))
TOLD = fitting(CROSSED, (2, 2), 1)
TILTS = (((1, 1), (2, 3)), ((1, 1), (5, 1)))
TILTED = tilted((2, 2), lots_of(2), TILTS, 1)
OPEN = ((), (1,))
QUESTION = "share c0=1 and not b1 if b0 or (c1=0)"
THREE = woven((2, 3), lots_of(2), 1)
LINES = ["add 00", "add 0-", "mend 1 11", "undo", "counts", "plain share c0=0", "arrow c0 b1", "ask share", "could"]


def even(view):
    """A filler: the same share for each content of sizes of two."""
    contents = tables.contents_showing((2,) * len(view), view)
    return {content: (1, len(contents)) for content in contents}


def led_by(function, *arguments):
    """What a new store of the rows of the examples tells when it is led by one of its methods."""
    rows = store.Rows((2, 2))
    for view in ROWS:
        rows.add(view)
    return function(rows, *arguments)


def add(*own):
    return led_by(store.Rows.add, *own)


def mend(*own):
    return led_by(store.Rows.mend, *own)


def strike(*own):
    return led_by(store.Rows.strike, *own)


def ask(*own):
    return led_by(store.Rows.ask, *own)


def quotient(*own):
    return led_by(store.Rows.quotient, *own)


def counts():
    return led_by(store.Rows.counts)


def rows_that_stand():
    return led_by(store.Rows.rows)


def tell(line):
    return desk.Desk((2, 2)).tell(line)


CALLS = [
    (Seen, (2, 2), SEEN.shares), (Whole, (2, 2), WHOLE.shares), (Web, 2, WEB.arrows),
    (tables.contents, (2, 2)), (tables.patterns, (2, 2)), (tables.views, (2, 2), (0,)), (tables.family, SEEN),
    (tables.family, WHOLE), (tables.lacking, SEEN), (tables.view, (2, 2), (0, 1), (0,)), (tables.contents_alone, WHOLE),
    (tables.patterns_alone, SEEN), (tables.patterns_alone, WHOLE), (tables.share, SEEN, (0, -1)),
    (tables.share, WHOLE, ((0, 1), (1,))), (tables.hidden, WHOLE), (tables.seen_of_rows, (2, 2), list(ROWS)),
    (tables.is_full, SEEN), (tables.mixed, WHOLE, WHOLE, (1, 3)),
    (webs.parents, WEB, 3), (webs.children, WEB, 0), (webs.behind, WEB, 0), (webs.order, WEB), (webs.tied, WEB),
    (webs.fewest_out, WEB), (webs.product, WEB, (2, 2), TABLES), (webs.broken, WEB, WHOLE),
    (webs.tables_of, WEB, WHOLE), (webs.is_fitting, WEB, WHOLE), (webs.ties, WEB), (webs.untied, WEB),
    (roads.open_road, WEB, (0,), (2,), (3,)), (roads.are_parted, WEB, (0,), (2,), (3,)),
    (roads.is_open_road, WEB, (0,), (2,), (3,), (0, 3, 2)),
    (calm.is_calm, CALM), (calm.first_uncalm, WHOLE), (calm.odds, CALM, 0, (1,)), (calm.calm_whole, SEEN),
    (calm.quotients, SEEN), (calm.quotient, SEEN, (0, -1)), (calm.calm_part, WHOLE),
    (telling.tells, WEB), (telling.twins, TIED, (2, 3)), (telling.are_twins, TIED, (2, 2), TWINS),
    (telling.twins_by, TIED, (2, 3), TIE), (telling.told_whole, CROSSED, tables.hidden(TOLD)),
    (couldbe.could_be, CROSSED, SEEN), (couldbe.webs_that_could, SEEN), (couldbe.least_webs, SEEN),
    (couldbe.sure_arrows, tables.hidden(TOLD)), (couldbe.all_webs, 1),
    (plainways.plain, SEEN, "shown rows", (0,), (1,)), (plainways.true_shares, WHOLE, (0,), (1,)),
    (plainways.is_right, CROSSED, "shown rows", (0,), ()), (plainways.wrong_whole, CROSSED, (2, 3), "whole rows", (0,),
                                                            ()),
    (plainways.is_wrong_whole, CROSSED, (2, 2), "whole rows", (0,), (), TOLD),
    (plainways.right_groups, CROSSED, "shown rows", (0,)),
    (texts.seen_text, SEEN), (texts.web_text, WEB), (reading.read_seen, texts.seen_text(SEEN)),
    (reading.read_web, texts.web_text(WEB)),
    (tilts.tilted_whole, SEEN, TILTS), (tilts.tilts_of, TILTED), (tilts.retilted, TILTED, TILTS[::-1]),
    (tilts.tilts_between, TILTED, calm.calm_part(TILTED)),
    (families.is_closed, 2, OPEN), (families.closed_around, 2, OPEN), (families.lacking_patterns, 2, OPEN),
    (families.closed_families, 2), (families.calm_twins, (2, 3), OPEN),
    (families.are_calm_twins, (2, 3), OPEN, families.calm_twins((2, 3), OPEN)),
    (questions.asked, WHOLE, QUESTION), (questions.asked_calm, SEEN, QUESTION),
    (questions.asked_tilted, SEEN, TILTS, "mean c1 if b1"), (questions.bounds, SEEN, QUESTION),
    (joining.worths_joined, THREE, 1, (0, 1, 0)), (joining.without_column, SEEN, 1),
    (joining.spoilt, THREE, 1, (0, 1, 0)),
    (joining.safe_leads, THREE, 1),
    (strangers.filled, SEEN, even), (strangers.proportional, SEEN), (strangers.refuted, even, (2, 2)),
    (strangers.drawn, WHOLE, [(0, 1), (1, 3)]), (strangers.even_draws, WHOLE, 10),
    (add, (0, 0)), (mend, 3, (-1, 0)), (strike, 5), (ask, QUESTION), (quotient, (0, -1)), (counts,), (rows_that_stand,),
    (tell, "add 00"), (desk.desk_tale, (2, 2), LINES), (store.Rows, (2, 2)), (desk.Desk, (2, 2)),
]
# For each call the places of the arguments for which an error is named, or of which a thing is judged.
JUDGED = {
    Seen: (0, 1), Whole: (0, 1), Web: (0, 1), tables.contents: (0,), tables.patterns: (0,), tables.views: (0, 1),
    tables.view: (0, 1, 2), tables.share: (1,), tables.seen_of_rows: (0, 1), tables.is_full: (0,),
    tables.mixed: (0, 1, 2), webs.parents: (1,), webs.children: (1,), webs.behind: (1,), webs.product: (1, 2),
    webs.is_fitting: (1,), roads.open_road: (1, 2, 3), roads.are_parted: (1, 2, 3), roads.is_open_road: (1, 2, 3, 4),
    calm.is_calm: (0,), calm.odds: (1, 2), calm.quotient: (1,), telling.twins: (1,), telling.are_twins: (1, 2),
    telling.twins_by: (1, 2), couldbe.all_webs: (0,), plainways.plain: (1, 2, 3), plainways.true_shares: (1, 2),
    plainways.is_right: (1, 2, 3), plainways.wrong_whole: (1, 2, 3, 4), plainways.is_wrong_whole: (1, 2, 3, 4, 5),
    plainways.right_groups: (1, 2), reading.read_seen: (0,), reading.read_web: (0,), tilts.tilted_whole: (1,),
    tilts.retilted: (1,), tilts.tilts_between: (1,), families.is_closed: (0, 1), families.closed_around: (0, 1),
    families.lacking_patterns: (0, 1), families.closed_families: (0,), families.calm_twins: (0, 1),
    families.are_calm_twins: (0, 1, 2), questions.asked: (1,), questions.asked_calm: (1,),
    questions.asked_tilted: (1, 2), questions.bounds: (1,), joining.worths_joined: (1, 2), joining.without_column: (1,),
    joining.spoilt: (1, 2), joining.safe_leads: (1,), strangers.refuted: (1,), strangers.drawn: (1,),
    strangers.even_draws: (1,), add: (0,), mend: (0, 1), strike: (0,), ask: (0,), quotient: (0,), tell: (0,),
    desk.desk_tale: (0, 1), store.Rows: (0,), desk.Desk: (0,),
}
# Functions that judge just what is put in the place of this argument, and raise no error because of it.
JUDGES = ((tables.share, 1), (tables.is_full, 0), (webs.is_fitting, 1), (roads.is_open_road, 4), (calm.is_calm, 0),
          (telling.are_twins, 2), (plainways.is_wrong_whole, 5), (families.are_calm_twins, 2))


class Kinds(Checks):
    def test_the_kinds_of_the_answers(self):
        kinds = {
            tables.contents: list, tables.patterns: list, tables.views: list, tables.family: list, tables.lacking: list,
            tables.view: tuple, tables.contents_alone: tuple, tables.patterns_alone: tuple, tables.share: tuple,
            tables.hidden: Seen, tables.seen_of_rows: Seen, tables.is_full: bool, tables.mixed: Whole,
            webs.parents: tuple, webs.children: tuple, webs.behind: tuple, webs.order: tuple, webs.tied: tuple,
            webs.fewest_out: tuple, webs.product: Whole, webs.broken: int, webs.tables_of: tuple, webs.is_fitting: bool,
            webs.ties: list, webs.untied: Web, Seen: Seen, Whole: Whole, Web: Web,
            roads.open_road: tuple, roads.are_parted: bool, roads.is_open_road: bool, calm.is_calm: bool,
            calm.first_uncalm: tuple, calm.odds: dict, calm.calm_whole: Whole, calm.quotients: tuple,
            calm.quotient: tuple, calm.calm_part: Whole, telling.tells: bool, telling.twins: tuple,
            telling.are_twins: bool, telling.twins_by: tuple, telling.told_whole: Whole,
            couldbe.could_be: bool, couldbe.webs_that_could: list, couldbe.least_webs: list, couldbe.sure_arrows: list,
            couldbe.all_webs: list, plainways.plain: dict, plainways.true_shares: dict, plainways.is_right: bool,
            plainways.wrong_whole: Whole, plainways.is_wrong_whole: bool, plainways.right_groups: list,
            texts.seen_text: str, texts.web_text: str, reading.read_seen: Seen, reading.read_web: Web,
            tilts.tilted_whole: Whole, tilts.tilts_of: tuple, tilts.retilted: Whole, tilts.tilts_between: tuple,
            families.is_closed: bool, families.closed_around: tuple, families.lacking_patterns: list,
            families.closed_families: list, families.calm_twins: tuple, families.are_calm_twins: bool,
            joining.worths_joined: Whole, joining.without_column: Seen, joining.spoilt: int, joining.safe_leads: list,
            strangers.filled: Whole, strangers.proportional: Whole, strangers.refuted: Seen, strangers.drawn: list,
            strangers.even_draws: list, add: int, mend: None.__class__, strike: None.__class__, ask: tuple,
            quotient: tuple, counts: dict, rows_that_stand: dict, tell: str, desk.desk_tale: list,
            store.Rows: store.Rows, desk.Desk: desk.Desk, questions.asked: tuple, questions.asked_calm: tuple,
            questions.asked_tilted: tuple, questions.bounds: tuple,
        }
        for function, *arguments in CALLS:
            self.assertIs(function(*arguments).__class__, kinds[function], function.__name__)

    def test_equal_calls_give_equal_answers_and_change_nothing(self):
        for function, *arguments in CALLS:
            before = frozen(arguments)
            answer = function(*arguments)
            self.assertEqual(frozen(function(*arguments)), frozen(answer), function.__name__)
            self.assertEqual(frozen(arguments), before, function.__name__)

    def test_each_list_and_each_dict_is_new(self):
        for function, *arguments in CALLS:
            answer = function(*arguments)
            if isinstance(answer, (list, dict)):
                before = frozen(answer)
                if isinstance(answer, list):
                    answer.append("more")
                else:
                    answer["more"] = "more"
                self.assertEqual(frozen(function(*arguments)), before, function.__name__)

    def test_fractions_are_in_lowest_terms(self):
        whole = webs.product(WEB, (2, 2), TABLES)
        shares = [fraction for table in (whole, tables.hidden(WHOLE), tables.mixed(whole, WHOLE, (1, 6)), SEEN)
                  for _, fraction in table.shares]
        shares += [fraction for pairs in (tables.contents_alone(WHOLE), tables.patterns_alone(SEEN))
                   for _, fraction in pairs]
        shares += [fraction for table in TABLES for _, line in table for fraction in line]
        wholes = [calm.calm_whole(SEEN), calm.calm_part(WHOLE), telling.told_whole(CROSSED, tables.hidden(TOLD)),
                  plainways.wrong_whole(CROSSED, (2, 3), "whole rows", (0,), ())]
        wholes += telling.twins(TIED, (2, 3)) + telling.twins_by(TIED, (2, 3), TIE) + families.calm_twins((2, 3), OPEN)
        wholes += [tilts.tilted_whole(SEEN, TILTS), tilts.retilted(TILTED, TILTS[::-1])]
        shares += [questions.asked(WHOLE, QUESTION), questions.asked_calm(SEEN, QUESTION),
                   *questions.bounds(SEEN, QUESTION)]
        shares += [fraction for table in wholes for _, fraction in table.shares]
        shares += list(plainways.plain(SEEN, "shown rows", (0,), (1,)).values())
        shares += list(plainways.true_shares(WHOLE, (0,), (1,)).values())
        quotients = list(calm.odds(CALM, 0, (1,)).values()) + [fraction for _, fraction in calm.quotients(SEEN)]
        quotients += [tilt for line in tilts.tilts_of(TILTED) + tilts.tilts_between(CALM, CALM) for tilt in line]
        for top, bottom in quotients + [questions.asked_tilted(SEEN, TILTS, "mean c1 if b1")]:
            self.assertEqual(Fraction(top, bottom).as_integer_ratio(), (top, bottom))
        for top, bottom in shares:
            own = Fraction(top, bottom)
            self.assertEqual((own.numerator, own.denominator), (top, bottom))
            self.assertTrue(0 < top <= bottom)


class Judged(Checks):
    def test_no_other_error_is_raised_because_of_what_a_thing_is(self):
        for function, *arguments in CALLS:
            for place in JUDGED.get(function, ()):
                for thing in odd_numbers():
                    altered = arguments[:place] + [thing] + arguments[place + 1:]
                    before = frozen(arguments[:place] + arguments[place + 1:])
                    try:
                        answer = function(*altered)
                    except BlankError:
                        self.assertNotIn((function, place), JUDGES)
                    else:
                        self.assertEqual(frozen(function(*altered)), frozen(answer))
                    self.assertEqual(frozen(arguments[:place] + arguments[place + 1:]), before)

    def test_forty_deep_within_what_is_otherwise_right(self):
        for make in (lambda thing: (thing,), lambda thing: [thing], lambda thing: {0: thing}, lambda thing: (thing, 1)):
            thing = deep(make, 36)
            for wrong in [((thing, (1, 1)),), (((0, 0), thing),), (((0, 0), (thing, 1)),), (((0, thing), (1, 1)),),
                          (thing,)]:
                self.raises(tables.BadSeen, {"part": 0}, Seen, (2, 2), wrong)
                self.raises(tables.BadWhole, {"part": 0}, Whole, (2, 2), wrong)
                self.raises(webs.BadWeb, {"part": 0}, Web, 2, wrong)
                self.raises(webs.BadTables, {"thing": 0}, webs.product, WEB, (2, 2), (wrong,) + TABLES[1:])
                self.tells((0, 1), tables.share, SEEN, wrong)
                self.raises(tilts.BadTilts, {"column": 0}, tilts.tilted_whole, SEEN, (wrong, TILTS[1]))
                self.raises(families.BadFamily, {}, families.is_closed, 2, wrong)
                self.tells(False, families.are_calm_twins, (2, 2), OPEN, (wrong, wrong))

    def test_long_tuples(self):
        many = 6000
        self.raises(tables.BadSeen, {"part": 1}, Seen, (2,), (((0,), (1, 1)),) * many)
        self.raises(tables.BadWhole, {"part": 1}, Whole, (2,), ((((0,), ()), (1, 2)),) * (many // 2))
        self.raises(webs.BadWeb, {"part": 1}, Web, 2, ((0, 1),) * many)
        self.raises(tables.BadSizes, {}, tables.contents, (2,) * many)
        self.raises(tables.NoPattern, {}, tables.views, (2,), tuple(range(many)))
        self.raises(webs.BadTables, {"thing": 0}, webs.product, Web(1, ()), (2,), (TABLES[0] * many, TABLES[1]))

    def test_little_depth_is_enough(self):
        limit = sys.getrecursionlimit()
        sys.setrecursionlimit(len(list(itertools.takewhile(bool, frames()))) + 60)
        try:
            for function, *arguments in CALLS:
                function(*arguments)
        finally:
            sys.setrecursionlimit(limit)


def frames():
    frame = sys._getframe()
    while frame:
        yield frame
        frame = frame.f_back


class Large(Checks):
    def test_numbers_of_sixty_digits_where_they_are_wrong(self):
        for number in (SIXTY, -SIXTY, 10 ** 59):
            self.raises(tables.BadSizes, {}, tables.contents, (number,))
            self.raises(tables.NoPattern, {}, tables.views, (2,), (number,))
            self.raises(tables.NoContent, {}, tables.view, (2,), (number,), ())
            self.raises(tables.BadRow, {"index": 0}, tables.seen_of_rows, (2,), [(number,)])
            self.raises(tables.NoFraction, {}, tables.mixed, bare_whole(), bare_whole(), (number, 1))
            self.raises(webs.BadWeb, {"part": "columns"}, Web, number, ())
            self.raises(webs.BadWeb, {"part": 0}, Web, 2, ((0, number),))
            self.raises(webs.NoThing, {}, webs.behind, WEB, number)
            self.tells((0, 1), tables.share, halves(), (number,))

    def test_sixty_digits_in_seen_tables_and_wholes(self):
        shares = weighed((2, 2), lots_of(2), [SIXTY // 17, SIXTY // 19, SIXTY // 23, 1])
        self.assertEqual(sum(Fraction(*fraction) for _, fraction in tables.contents_alone(shares)), 1)
        self.assertEqual(sum(Fraction(*fraction) for _, fraction in tables.hidden(shares).shares), 1)
        told = tables.mixed(shares, WHOLE, (SIXTY - 1, SIXTY))
        self.assertEqual(Whole(told.sizes, told.shares), told)

    def test_numbers_of_more_figures_than_python_writes(self):
        whole = bare_whole()
        other = weighed((2,), [(0,)], [1, 4])
        for _ in range(90):
            whole = tables.mixed(whole, other, (SIXTY - 2, SIXTY))
        fraction = tables.share(whole, ((0,), (0,)))
        self.assertGreater(fraction[1].bit_length(), 16000)
        self.raises(tables.BadWhole, {"part": "sum"}, Whole, (2,), ((((0,), ()), fraction), (((1,), ()), fraction)))
        self.raises(tables.NoFraction, {}, tables.mixed, whole, whole, (fraction[1], fraction[0]))
        self.assertEqual(tables.mixed(whole, whole, fraction), whole)
        self.raises(webs.BadWeb, {"part": "columns"}, Web, fraction[0], ())
        self.assertEqual(tables.hidden(whole).shares, (((0,), fraction), ((1,), whole.shares[1][1])))


class Unlike(Checks):
    def test_objects_of_unlike_classes_are_unlike(self):
        seen = Seen((2,), (((0,), (1, 2)), ((1,), (1, 2))))
        things = [seen, bare_whole(), Web(1, ()), store.Rows((2,)), desk.Desk((2,)), tables.BadSizes(),
                  tables.BadSeen("sum"), (2,), 1, None, seen.shares]
        for one, other in itertools.permutations(things, 2):
            self.assertFalse(one == other)
            self.assertTrue(one != other)

    def test_objects_do_not_change_with_what_they_were_made_of(self):
        rows = [(0, 0), (1, 1)]
        seen = tables.seen_of_rows((2, 2), rows)
        before = frozen(seen)
        rows[0] = (1, 0)
        tables.family(seen).append(())
        tables.lacking(seen).clear()
        self.assertEqual(frozen(seen), before)


if __name__ == "__main__":
    unittest.main()
