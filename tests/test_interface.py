"""The interface as it has landed: each name is defined in its file, with its arguments; and the examples."""

import inspect
import unittest

from calmblanks import (calm, couldbe, desk, errors, families, joining, plainways, questions, reading, roads, store,
                        strangers, tables, telling, texts, tilts, webs)
from tests.helper import ROWS

INTERFACE = {
    tables: """Seen(sizes, shares) Whole(sizes, shares) contents(sizes) patterns(sizes) views(sizes, pattern)
        family(table) lacking(seen) view(sizes, content, pattern) contents_alone(whole) patterns_alone(table)
        share(table, key) hidden(whole) seen_of_rows(sizes, rows) is_full(seen) mixed(one, other, part)""",
    webs: """Web(columns, arrows) parents(web, thing) children(web, thing) behind(web, thing) order(web) tied(web)
        fewest_out(web) product(web, sizes, tables) broken(web, whole) tables_of(web, whole) is_fitting(web, thing)
        ties(web) untied(web)""",
    roads: """open_road(web, one, other, given) are_parted(web, one, other, given)
        is_open_road(web, one, other, given, thing)""",
    calm: """is_calm(whole) first_uncalm(whole) odds(whole, column, pattern) calm_whole(seen) calm_part(whole)
        quotients(seen) quotient(seen, view)""",
    telling: """tells(web) are_twins(web, sizes, thing) twins(web, sizes) twins_by(web, sizes, tie)
        told_whole(web, seen)""",
    couldbe: """could_be(web, seen) webs_that_could(seen) least_webs(seen) sure_arrows(seen) all_webs(columns)""",
    plainways: """plain(seen, way, wish, group) true_shares(whole, wish, group) is_right(web, way, wish, group)
        is_wrong_whole(web, sizes, way, wish, group, thing) wrong_whole(web, sizes, way, wish, group)
        right_groups(web, way, wish)""",
    texts: """seen_text(seen) web_text(web)""",
    reading: """read_seen(text) read_web(text)""",
    tilts: """tilted_whole(seen, tilts) retilted(whole, tilts) tilts_of(whole) tilts_between(whole, other)""",
    families: """is_closed(columns, family) are_calm_twins(sizes, family, thing) closed_around(columns, family)
        lacking_patterns(columns, family) closed_families(columns) calm_twins(sizes, family)""",
    store: """Rows(sizes)""",
    joining: """worths_joined(table, column, lead) without_column(table, column) spoilt(whole, column, lead)
        safe_leads(whole, column)""",
    strangers: """filled(seen, filler) proportional(seen) refuted(filler, sizes) drawn(whole, throws)
        even_draws(whole, many)""",
    desk: """Desk(sizes) desk_tale(sizes, lines)""",
    questions: """asked(whole, text) asked_calm(seen, text) asked_tilted(seen, tilts, text) bounds(seen, text)""",
}


class Interface(unittest.TestCase):
    def test_each_name_is_defined_in_its_file_with_its_arguments(self):
        for module, text in INTERFACE.items():
            for item in text.replace(")", ")|").split("|")[:-1]:
                name, arguments = item.strip().rstrip(")").split("(")
                thing = getattr(module, name)
                self.assertEqual(thing.__module__, module.__name__, name)
                self.assertEqual(list(inspect.signature(thing).parameters), arguments.split(", "), name)

    def test_methods_that_are_listed_are_the_classes_own(self):
        for kind in (tables.Seen, tables.Whole, webs.Web):
            self.assertIn("__eq__", vars(kind))
            self.assertIn("__init__", vars(kind))
            self.assertEqual(kind.__bases__, (object,))

    def test_methods_of_the_store_and_the_desk(self):
        methods = {store.Rows: """add(view) worked() mend(number, view) strike(number) undo() rows() counts() seen() whole()
            ask(text) quotient(view) copy()""", desk.Desk: "tell(line)"}
        for kind, text in methods.items():
            self.assertEqual(kind.__bases__, (object,))
            for item in text.replace(")", ")|").split("|")[:-1]:
                name, arguments = item.strip().rstrip(")").split("(")
                self.assertIn(name, vars(kind))
                found = list(inspect.signature(vars(kind)[name]).parameters)
                self.assertEqual(found, ["self"] + [own for own in arguments.split(", ") if own], name)

    def test_errors_are_defined_in_their_file(self):
        for thing in vars(errors).values():
            if isinstance(thing, type):
                self.assertEqual(thing.__module__, "calmblanks.errors")


class Examples(unittest.TestCase):
    def test_seen(self):
        seen = tables.seen_of_rows((2, 2), ROWS)
        self.assertEqual(tables.share(seen, (0, 0)), (1, 5))
        self.assertEqual(tables.family(seen), [(), (0,), (0, 1), (1,)])
        self.assertIs(tables.is_full(seen), True)

    def test_e01(self):
        whole = calm.calm_whole(tables.seen_of_rows((2, 2), ROWS))
        answer = (((0, 0), (2, 5)), ((0, 1), (1, 5)), ((1, 0), (1, 10)), ((1, 1), (3, 10)))
        self.assertEqual(tables.contents_alone(whole), answer)

    def test_e02(self):
        seen = tables.seen_of_rows((2, 2), ROWS)
        told = (tables.share(seen, (0, 0)), calm.quotient(seen, (0, -1)), calm.quotient(seen, (-1, 1)),
                calm.quotient(seen, (-1, -1)))
        self.assertEqual(told, ((1, 5), (1, 2), (2, 5), (1, 2)))

    def test_e03(self):
        crossed = webs.Web(2, ((0, 3), (1, 2)))
        told = (telling.tells(crossed), webs.order(crossed), roads.are_parted(crossed, (0,), (2,), ()),
                plainways.is_right(crossed, "shown rows", (0,), ()), plainways.is_right(crossed, "whole rows", (0,), ()))
        self.assertEqual(told, (True, (0, 1, 2, 3), True, True, False))

    def test_e04(self):
        own = webs.Web(1, ((0, 1),))
        led = webs.Web(2, ((0, 3), (2, 3)))
        told = (webs.ties(own), webs.fewest_out(own), telling.tells(own), webs.ties(led), webs.tied(led),
                webs.untied(led) == webs.Web(2, ((2, 3),)))
        self.assertEqual(told, ([((0, 1),)], (0,), False, [((0, 3), (2, 3))], (0,), True))

    def test_e05(self):
        self.assertEqual((len(couldbe.all_webs(1)), len(couldbe.all_webs(2))), (2, 144))

    def test_e06(self):
        seen = tables.seen_of_rows((2, 2), ROWS)
        whole = calm.calm_whole(seen)
        told = (questions.asked(whole, "share c0=1 if b0"), questions.asked(whole, "mean c1 if not b1"),
                questions.bounds(seen, "share c0=1"))
        self.assertEqual(told, ((2, 5), (1, 2), ((3, 10), (11, 20))))

    def test_e07(self):
        self.assertEqual(texts.web_text(webs.Web(2, ((0, 3), (2, 3)))), "columns 2\nc0 > b1\nb0 > b1\n")


if __name__ == "__main__":
    unittest.main()
