"""The interface as it has landed: each name is defined in its file, with its arguments; and the examples."""

import inspect
import unittest

from calmblanks import errors, tables, webs
from tests.helper import ROWS

INTERFACE = {
    tables: """Seen(sizes, shares) Whole(sizes, shares) contents(sizes) patterns(sizes) views(sizes, pattern)
        family(table) lacking(seen) view(sizes, content, pattern) contents_alone(whole) patterns_alone(table)
        share(table, key) hidden(whole) seen_of_rows(sizes, rows) is_full(seen) mixed(one, other, part)""",
    webs: """Web(columns, arrows) parents(web, thing) children(web, thing) behind(web, thing) order(web) tied(web)
        fewest_out(web) product(web, sizes, tables) broken(web, whole) tables_of(web, whole) is_fitting(web, thing)
        ties(web) untied(web)""",
}


class Interface(unittest.TestCase):
    def test_each_name_is_defined_in_its_file_with_its_arguments(self):
        for module, text in INTERFACE.items():
            for item in text.replace(")", ")|").split("|")[:-1]:
                name, arguments = item.strip().rstrip(")").split("(")
                thing = getattr(module, name)
                self.assertEqual(thing.__module__, module.__name__, name)
                self.assertEqual(list(inspect.signature(thing).parameters), arguments.split(", "), name)

    def test_methods_that_are_listed_are_the_classes_own(self):
        for kind in (tables.Seen, tables.Whole, webs.Web):
            self.assertIn("__eq__", vars(kind))
            self.assertIn("__init__", vars(kind))
            self.assertEqual(kind.__bases__, (object,))

    def test_errors_are_defined_in_their_file(self):
        for thing in vars(errors).values():
            if isinstance(thing, type):
                self.assertEqual(thing.__module__, "calmblanks.errors")


class Examples(unittest.TestCase):
    def test_seen(self):
        seen = tables.seen_of_rows((2, 2), ROWS)
        self.assertEqual(tables.share(seen, (0, 0)), (1, 5))
        self.assertEqual(tables.family(seen), [(), (0,), (0, 1), (1,)])
        self.assertIs(tables.is_full(seen), True)

    def test_crossed(self):
        self.assertEqual(webs.order(webs.Web(2, ((0, 3), (1, 2)))), (0, 1, 2, 3))

    def test_e04_as_far_as_it_is_of_ties(self):
        own = webs.Web(1, ((0, 1),))
        led = webs.Web(2, ((0, 3), (2, 3)))
        told = (webs.ties(own), webs.fewest_out(own), webs.ties(led), webs.tied(led),
                webs.untied(led) == webs.Web(2, ((2, 3),)))
        self.assertEqual(told, ([((0, 1),)], (0,), [((0, 3), (2, 3))], (0,), True))


if __name__ == "__main__":
    unittest.main()
