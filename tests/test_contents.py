"""Contents, patterns, views (1.1)."""

import itertools
import unittest

from calmblanks.errors import BadSizes, NoContent, NoPattern
from calmblanks.tables import contents, patterns, view, views
from tests.helper import SIXTY, Checks, lots_of, odd_things, sizes_of_all

WRONG_SIZES = [
    (), (1,), (0,), (5,), (-2,), (2, 1), (2, 5), (2, 2, 2, 2, 2), (4, 4, 4, 2), (3, 3, 3, 3), (4, 4, 3, 2), (2, 4, 3, 3),
    (4, 4, 4, 4), (True, 2), (2, False), (2, "2"), (2, None), (2, (2,)), (2, [2]), (b"\x02",), (SIXTY,), (2, -SIXTY),
    [2], [2, 2], 2, (2,) * 20000, ((2, 2),),
]
WRONG_PATTERNS = [
    (1, 0), (0, 0), (2,), (-1,), (0, 2), (0, 1, 2), (SIXTY,), (-SIXTY,), (True,), (False,), (0, True), ("0",), (None,),
    ((0,),), ([0],), (0, "1"), [], [0], [0, 1], 0, 1, "", "01", {}, range(2),
]
WRONG_CONTENTS = [
    (), (0,), (0, 0, 0), (2, 0), (0, 3), (-1, 0), (0, -1), (SIXTY, 0), (True, 0), (0, False), ("0", 0), (0, None),
    ((0,), 0), (0, [1]), [0, 0], 0, {0: 0}, "00", range(2), ((0, 0), ()),
]


class Contents(Checks):
    def test_one_column(self):
        self.tells([(0,), (1,)], contents, (2,))
        self.tells([(0,), (1,), (2,), (3,)], contents, (4,))

    def test_two_columns(self):
        self.tells([(0, 0), (0, 1), (0, 2), (1, 0), (1, 1), (1, 2)], contents, (2, 3))

    def test_all_sizes(self):
        everything = sizes_of_all()
        self.assertIn((4, 4, 4), everything)
        self.assertIn((4, 4, 2, 2), everything)
        for sizes in everything:
            self.tells(list(itertools.product(*[range(size) for size in sizes])), contents, sizes)

    def test_sizes_with_a_product_up_to_64_alone(self):
        right = sizes_of_all()
        for many in range(1, 5):
            for sizes in itertools.product((2, 3, 4), repeat=many):
                if sizes not in right:
                    self.raises(BadSizes, {}, contents, sizes)

    def test_wrong_sizes(self):
        for sizes in WRONG_SIZES + odd_things():
            self.raises(BadSizes, {}, contents, sizes)


class Patterns(Checks):
    def test_up_to_three_columns(self):
        self.tells([(), (0,)], patterns, (3,))
        self.tells([(), (0,), (0, 1), (1,)], patterns, (2, 4))
        self.tells([(), (0,), (0, 1), (0, 1, 2), (0, 2), (1,), (1, 2), (2,)], patterns, (2, 2, 2))

    def test_four_columns(self):
        self.tells(lots_of(4), patterns, (2, 2, 2, 2))
        self.assertEqual(len(patterns((4, 4, 2, 2))), 16)

    def test_wrong_sizes(self):
        for sizes in WRONG_SIZES + odd_things():
            self.raises(BadSizes, {}, patterns, sizes)


class Views(Checks):
    def test_no_column_and_all_columns(self):
        self.tells([(-1, -1)], views, (2, 3), ())
        self.tells([(0, 0), (0, 1), (0, 2), (1, 0), (1, 1), (1, 2)], views, (2, 3), (0, 1))

    def test_some_columns(self):
        self.tells([(0, -1), (1, -1)], views, (2, 3), (0,))
        self.tells([(-1, 0), (-1, 1), (-1, 2)], views, (2, 3), (1,))
        self.tells([(0, -1, 0), (0, -1, 1), (1, -1, 0), (1, -1, 1)], views, (2, 4, 2), (0, 2))

    def test_all_81_views_of_four_columns(self):
        sizes = (2, 2, 2, 2)
        found = [item for pattern in patterns(sizes) for item in views(sizes, pattern)]
        self.assertEqual(len(found), 81)
        self.assertEqual(sorted(found), sorted(itertools.product((-1, 0, 1), repeat=4)))
        for pattern in lots_of(4):
            shown = [item for item in itertools.product((-1, 0, 1), repeat=4)
                     if tuple(column for column in range(4) if item[column] >= 0) == pattern]
            self.tells(shown, views, sizes, pattern)

    def test_wrong_sizes_come_ahead_of_wrong_patterns(self):
        for sizes in WRONG_SIZES + odd_things():
            self.raises(BadSizes, {}, views, sizes, (0,))
            self.raises(BadSizes, {}, views, sizes, None)

    def test_wrong_patterns(self):
        for pattern in WRONG_PATTERNS + odd_things():
            self.raises(NoPattern, {}, views, (2, 3), pattern)
        self.raises(NoPattern, {}, views, (2,), (1,))


class View(Checks):
    def test_each_pattern(self):
        self.tells((-1, -1), view, (2, 3), (1, 2), ())
        self.tells((1, -1), view, (2, 3), (1, 2), (0,))
        self.tells((-1, 2), view, (2, 3), (1, 2), (1,))
        self.tells((1, 2), view, (2, 3), (1, 2), (0, 1))

    def test_one_column_and_four(self):
        self.tells((3,), view, (4,), (3,), (0,))
        self.tells((-1,), view, (4,), (3,), ())
        self.tells((-1, 0, -1, 1), view, (2, 2, 4, 4), (1, 0, 3, 1), (1, 3))

    def test_each_view_is_that_of_the_contents_that_show_it(self):
        sizes = (2, 3, 2)
        for pattern in patterns(sizes):
            shown = sorted({view(sizes, content, pattern) for content in contents(sizes)})
            self.assertEqual(shown, views(sizes, pattern))

    def test_errors_come_argument_behind_argument(self):
        self.raises(BadSizes, {}, view, (2, 1), (2, 0), (3,))
        self.raises(NoContent, {}, view, (2, 3), (2, 0), (3,))
        self.raises(NoPattern, {}, view, (2, 3), (1, 0), (3,))

    def test_wrong_sizes(self):
        for sizes in WRONG_SIZES + odd_things():
            self.raises(BadSizes, {}, view, sizes, (0, 0), ())

    def test_wrong_contents(self):
        for content in WRONG_CONTENTS + odd_things():
            self.raises(NoContent, {}, view, (2, 3), content, ())
            self.raises(NoContent, {}, view, (2, 3), content, None)

    def test_wrong_patterns(self):
        for pattern in WRONG_PATTERNS + odd_things():
            self.raises(NoPattern, {}, view, (2, 3), (0, 0), pattern)


if __name__ == "__main__":
    unittest.main()
