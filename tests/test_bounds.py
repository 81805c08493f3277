"""What a seen table leaves open of an answer (9.2)."""

import itertools
import random
import unittest
from fractions import Fraction

from calmblanks.errors import BadText
from calmblanks.questions import asked, bounds
from calmblanks.tables import Seen, Whole, hidden, is_full, mixed, seen_of_rows
from tests.helper import (ROWS, SIXTY, Checks, all_families, as_pair, bare_whole, closed_families, lots_of, odd_things,
                          uneven,
                          weighed, woven)
from tests.test_calm_whole import seen_weighed, shown_by
from tests.test_questions import conditions_for, drawn_expression, meets, spaced

SEEN = seen_of_rows((2, 2), ROWS)


def pattern_of(view):
    return tuple(column for column, worth in enumerate(view) if worth != -1)


def contents_of(sizes, view):
    return [content for content in itertools.product(*[range(size) for size in sizes]) if shown_by(view, content)]


def by_views(seen, wanted, told):
    """As the fact of bounds says it, view by view."""
    must_both = can_both = must_other = can_other = Fraction(0)
    must_told = False
    for view, fraction in seen.shares:
        kinds = set()
        for content in contents_of(seen.sizes, view):
            pattern = pattern_of(view)
            kinds.add((meets(told, content, pattern), meets(told, content, pattern) and meets(wanted, content,
                                                                                              pattern)))
        share = Fraction(*fraction)
        must_told |= (False, False) not in kinds
        must_both += share if kinds == {(True, True)} else 0
        can_both += share if (True, True) in kinds else 0
        must_other += share if kinds == {(True, False)} else 0
        can_other += share if (True, False) in kinds else 0
    if not must_told:
        return None
    return (as_pair(must_both / (must_both + can_other)), as_pair(can_both / (can_both + must_other)))


def by_all_ways(seen, wanted, told):
    """The least and the greatest answer of all ways to give each view to one content; None if one has none to tell."""
    found = []
    for given in itertools.product(*[contents_of(seen.sizes, view) for view, _ in seen.shares]):
        rows = [(content, pattern_of(view), Fraction(*fraction)) for content,
                (view, fraction) in zip(given, seen.shares)]
        rows = [row for row in rows if meets(told, row[0], row[1])]
        if not rows:
            return None
        met = sum(fraction for content, pattern, fraction in rows if meets(wanted, content, pattern))
        found.append(Fraction(met) / sum(fraction for _, _, fraction in rows))
    return (as_pair(min(found)), as_pair(max(found)))


def parted(seen, parts_of):
    """The whole in which each view's share is parted among its contents by these parts."""
    shares = []
    for view, fraction in seen.shares:
        contents = contents_of(seen.sizes, view)
        parts = parts_of(view, contents)
        shares += [((content, pattern_of(view)), as_pair(Fraction(*fraction) * part / sum(parts)))
                   for content, part in zip(contents, parts)]
    return Whole(seen.sizes, tuple(sorted(shares)))


class ByHand(Checks):
    def test_the_example(self):
        self.tells(((3, 10), (11, 20)), bounds, SEEN, "share c0=1")

    def test_the_rows_of_the_example(self):
        # Of 20 rows: 00 four, 01 two, 10 one, 11 three, 0- three, 1- two, -0 two, -1 two, -- one.
        for text, answer in [
                ("share yes", ((1, 1), (1, 1))), ("share no", ((0, 1), (0, 1))), ("share b0", ((1, 4), (1, 4))),
                ("share c1=1", ((7, 20), (13, 20))), ("share c0=1 and c1=1", ((3, 20), (2, 5))),
                ("share c0=1 or c1=1", ((1, 2), (4, 5))), ("share c0=1 and not b0", ((3, 10), (3, 10))),
                # Of those with column 0 blank, 5 rows, each can be 1 and need not be.
                ("share c0=1 if b0", ((0, 1), (1, 1))), ("share c1=1 if b0", ((2, 5), (3, 5))),
                # Least, if 1-, -0 and -- are 10, and -1 is 01: 3 of 9; most, if 1-, -1 and -- are 11, and -0 is 00: 8 of 9.
                ("share c1=1 if c0=1", ((1, 3), (8, 9))),
                # Least, if 0-, -1 and -- are 01, and 1- is 10: 3 of 11; most, if 1-, -1 and -- are 11, and 0- is 00: 8 of 10.
                ("share c0=1 if c1=1", ((3, 11), (4, 5))),
                ("share c0=0 if c0=1", ((0, 1), (0, 1))), ("share c0=1 if c0=1", ((1, 1), (1, 1))),
                ("share yes if c0=1 and c1=1", ((1, 1), (1, 1))),
                ("share c0=1 if not b0 and not b1", ((2, 5), (2, 5)))]:
            self.tells(answer, bounds, SEEN, text)

    def test_none_if_no_view_must_meet_what_stands_behind_if(self):
        self.tells(None, bounds, SEEN, "share c0=1 if no")
        self.tells(None, bounds, SEEN, "share c0=1 if b0 and c0=1")
        self.tells(None, bounds, SEEN, "share yes if c0=0 and b0 and c1=1 and b1")
        # The view -1 must meet it.
        self.tells(((0, 1), (1, 1)), bounds, SEEN, "share c0=1 if b0 and c1=1")
        blank = seen_of_rows((3,), [(-1,)])
        self.tells(None, bounds, blank, "share c0=1 if c0=1 or c0=2")
        self.tells(((0, 1), (1, 1)), bounds, blank, "share c0=1 if c0=1 or c0=2 or c0=0")
        self.tells(((0, 1), (1, 1)), bounds, blank, "share c0=1 if yes")
        self.tells(((0, 1), (0, 1)), bounds, blank, "share no if b0")

    def test_tables_that_are_not_full(self):
        seen = seen_of_rows((2, 2), [(0, -1), (0, 1), (1, 0)])
        self.assertFalse(is_full(seen))
        self.tells(((1, 3), (1, 3)), bounds, seen, "share c0=1")
        self.tells(((1, 3), (2, 3)), bounds, seen, "share c1=1")
        self.tells(((1, 2), (1, 1)), bounds, seen, "share c1=1 if c0=0")
        self.tells(None, bounds, seen, "share c1=1 if c0=1 and c1=1")
        self.tells(((1, 1), (1, 1)), bounds, seen, "share c0=1 if c0=1")

    def test_nothing_blank(self):
        self.tells(((2, 3), (2, 3)), bounds, hidden(bare_whole()), "share c0=1")
        self.tells(None, bounds, hidden(bare_whole()), "share c0=1 if b0")


class ByTheFact(Checks):
    def check(self, seen, dice, times, most):
        for _ in range(times):
            wanted = drawn_expression(dice, conditions_for(seen.sizes), most)
            told = drawn_expression(dice, conditions_for(seen.sizes), most)
            self.tells(by_views(seen, wanted, told), bounds, seen, spaced(dice, ["share"] + wanted + ["if"] + told))
            self.tells(by_views(seen, wanted, ["yes"]), bounds, seen, spaced(dice, ["share"] + wanted))

    def test_view_by_view(self):
        dice = random.Random(1)
        for sizes, own in [((2,), lots_of(1)), ((4,), lots_of(1)), ((2, 3), lots_of(2)), ((2, 3), [(), (0, 1)]),
                           ((2, 2, 2), lots_of(3)), ((4, 2, 2), [(0,), (1, 2)])]:
            self.check(seen_weighed(sizes, own, [3, 1, 4, 1, 5, 9, 2, 6]), dice, 40, 10)
        self.check(seen_weighed((2, 2, 2, 2), lots_of(4), [3, 1, 4, 1, 5]), dice, 10, 10)
        self.check(seen_weighed((4, 4, 4), lots_of(3), [3, 1, 4, 1, 5]), dice, 5, 10)

    def test_view_by_view_of_tables_that_lack_some(self):
        dice = random.Random(2)
        for sizes in [(2,), (2, 3), (2, 2, 2), (2, 2, 2, 2), (4, 4, 4)]:
            for _ in range(12):
                views = [tuple(dice.randrange(-1, size) for size in sizes) for _ in range(dice.randrange(1, 8))]
                self.check(seen_of_rows(sizes, views), dice, 4, 8)

    def test_all_ways_to_give_each_view_to_one_content(self):
        dice = random.Random(3)
        for own in all_families(1) + all_families(2)[::3]:
            sizes = (2,) * max(1, max(len(pattern) for pattern in own))
            seen = seen_weighed(sizes, sorted(own), [3, 1, 4, 1, 5, 9]) if own != ((), (0,), (0, 1), (1,)) else SEEN
            for _ in range(6):
                wanted = drawn_expression(dice, conditions_for(sizes), 6)
                told = drawn_expression(dice, conditions_for(sizes), 6)
                self.assertEqual(by_all_ways(seen, wanted, told), by_views(seen, wanted, told))
                self.tells(by_all_ways(seen, wanted, told), bounds, seen,
                           spaced(dice, ["share"] + wanted + ["if"] + told))
        for views in itertools.combinations(sorted(set(ROWS)), 4):
            seen = seen_of_rows((2, 2), views)
            for text in ["share c1=1 if c0=1", "share c0=1 or b1 if not (c1=1 and b0)",
                         "share c0=1 and c1=0 if c0=1 or c1=0"]:
                wanted, told = text[6:].split(" if ")
                self.tells(by_all_ways(seen, wanted, told), bounds, seen, text)

    def test_no_whole_goes_beyond_and_some_come_near(self):
        dice = random.Random(4)
        for sizes in [(2,), (2, 3), (2, 2, 2)]:
            for own in closed_families(len(sizes))[::3] + [[()], [tuple(range(len(sizes)))]]:
                seen = seen_weighed(sizes, own, [3, 1, 4, 1, 5, 9, 2, 6])
                for _ in range(10):
                    wanted = drawn_expression(dice, conditions_for(sizes), 8)
                    told = drawn_expression(dice, conditions_for(sizes), 8)
                    text = spaced(dice, ["share"] + wanted + ["if"] + told)
                    pair = bounds(seen, text)
                    if pair is not None:
                        whole = parted(seen, lambda view, contents: [dice.choice([1, 9, 10 ** 6]) for _ in contents])
                        self.assertEqual(hidden(whole), seen)
                        answer = asked(whole, text)
                        self.assertTrue(Fraction(*pair[0]) <= Fraction(*answer) <= Fraction(*pair[1]))
                        self.come_near(seen, text, wanted, told, pair)

    def come_near(self, seen, text, wanted, told, pair):
        """Wholes that give almost all of each view to the content that is best for a bound come as near as one likes."""
        for bound, rank in [(pair[0], [(True, False), (False, False), (True, True)]),
                            (pair[1], [(True, True), (False, False), (True, False)])]:
            def parts_of(view, contents):
                def kind(content):
                    met = meets(told, content, pattern_of(view))
                    return rank.index((met, met and meets(wanted, content, pattern_of(view))))
                best = min(contents, key=kind)
                return [10 ** 9 if content == best else 1 for content in contents]
            answer = asked(parted(seen, parts_of), text)
            self.assertLess(abs(Fraction(*answer) - Fraction(*bound)), Fraction(1, 10 ** 6))


class Wrong(Checks):
    def test_bad_text_as_of_questions(self):
        dice = random.Random(5)
        whole = woven((2, 2), lots_of(2), 1)
        texts = ["", " ", "share", "share yes)", "share (yes", "share c0=2", "share c2=0", "share yes if", "yes",
                 "share yes\n", "mean",
                 "mean c0", "mean c0 yes", "mean c2 if yes", "mean c0 if", "mean c0 if yes yes", "mean c0 if (yes",
                 "mean c0=1 if yes"]
        texts += [spaced(dice, ["share"] + drawn_expression(dice, ["yes", "b2", "c0=1", "c5=1"], 6)) for _ in range(60)]
        for text in texts:
            try:
                asked(whole, text)
            except BadText as error:
                self.raises(BadText, {"at": error.at}, bounds, SEEN, text)
                self.raises(BadText, {"at": error.at}, bounds, hidden(whole), text)
            else:
                self.assertIsNotNone(bounds(SEEN, text))
        for thing in odd_things():
            self.raises(BadText, {"at": 0 if isinstance(thing, str) else -1}, bounds, SEEN, thing)

    def test_a_mean_at_0(self):
        for text in ["mean c0 if yes", "   mean c1 if b0", "mean c0 if no", "mean c1 if(c0=1)or not b1 ",
                     "    mean   c0   if   yes   "]:
            self.raises(BadText, {"at": 0}, bounds, SEEN, text)
            self.raises(BadText, {"at": 0}, bounds, seen_of_rows((2, 2), [(-1, -1)]), text)
        self.raises(BadText, {"at": 11}, bounds, SEEN, "mean c0 if zz")


class Large(Checks):
    def test_long_and_deep(self):
        for many in (2000, 20000):
            self.tells(((3, 10), (11, 20)), bounds, SEEN, "share " + "not " * many + "(" * many + "c0=1" + ")" * many)
            self.tells(((3, 10), (11, 20)), bounds, SEEN,
                       "share no" + " or c0=1" * many + " if yes" + " and yes" * many)

    def test_sixty_figures(self):
        seen = seen_weighed((2, 2), lots_of(2), [SIXTY // 17, SIXTY // 19, SIXTY // 23, 1])
        for wanted, told in [("c0=1", "yes"), ("c0=1 and b1", "c1=1 or b0"), ("c1=0", "c0=0")]:
            self.tells(by_views(seen, wanted, told), bounds, seen, f"share {wanted} if {told}")

    def test_numbers_of_any_size(self):
        whole = weighed((2,), lots_of(1), [1, 2, 3, 4])
        for place in range(90):
            whole = mixed(whole, uneven((2,), lots_of(1), place), (SIXTY - 2, SIXTY))
        seen = hidden(whole)
        self.assertEqual(bounds(seen, "share c0=1"), by_views(seen, "c0=1", "yes"))
        self.assertGreater(bounds(seen, "share c0=1")[0][1].bit_length(), 16000)
        self.assertEqual(bounds(Seen(seen.sizes, seen.shares), "share c0=1 if c0=1"), ((1, 1), (1, 1)))


if __name__ == "__main__":
    unittest.main()
