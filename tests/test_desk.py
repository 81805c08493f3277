"""A desk that is led by lines (13)."""

import random
import unittest
import unittest.mock
from fractions import Fraction

from calmblanks.calm import calm_whole
from calmblanks.desk import Desk, desk_tale
from calmblanks.errors import (BadSizes, BadText, NoArrow, NoLine, NoLines, NoRow, NoRows, NotAll, NotClosed, NotFull,
                               NothingDone, NotTold)
from calmblanks.questions import asked, bounds
from calmblanks.tables import seen_of_rows
from calmblanks.webs import Web
from tests.helper import (ROWS, Checks, as_pair, deep, frozen, halves, has_ring, lots_of, odd_numbers, odd_things,
                          sizes_of_all)
from tests.test_calm_whole import pattern_of
from tests.test_contents import WRONG_SIZES
from tests.test_questions import conditions_for, drawn_expression, meets, spaced
from tests.test_store import Account, views_of, what_lacks
from tests.test_telling import fits_by_sums
from tests.test_ties import columns_tied

# Lines of no form for two columns, of two worths and of three.
WRONG_LINES = [
    "", " ", "add", "add ", "add  00", " add 00", "add 00 ", "add 0", "add 000", "add 20", "add 03", "add 0 0",
    "add 00 00", "add (0,0)",
    "add 0,0", "add ab", "add 0_", "Add 00", "ADD 00", "add\t00", "add 00\n", "\nadd 00", "add\n00", "add00", "adds 00",
    "add --- ", "add -",
    "add ---", "add 0\n", "mend", "mend 0", "mend 0 ", "mend 00", "mend 0  00", "mend 0 00 ", "mend 0 0", "mend 0 20",
    "mend 00 00", "mend 01 00",
    "mend -1 00", "mend +1 00", "mend 0 00 0", "mend a 00", "mend 1000000000 00", "mend 0000000001 00", "mend 1_0 00",
    "mend  00", "strike",
    "strike ", "strike  0", "strike 00", "strike 01", "strike -0", "strike -1", "strike +0", "strike 0 ", "strike 0 0",
    "strike 1000000000",
    "strike a", "strike 0.", "strike 0x0", "strike 1e1", "strike 0\n", "undo ", " undo", "undo undo", "undo 0", "Undo",
    "undo\n", "ask", "bounds",
    "plain", "asks yes", " ask share yes", "ask\nshare yes", "ASK share yes", "arrow", "arrow ", "arrow c0",
    "arrow c0 ", "arrow c0 b0 ",
    "arrow  c0 b0", "arrow c0  b0", "arrow c0 b0 b1", "arrow c2 b0", "arrow c0 b2", "arrow c00 b0", "arrow c0 b01",
    "arrow 0 1", "arrow c b",
    "arrow C0 b0", "arrow c0 > b0", "arrow c0,b0", "arrow c-1 b0", "arrow c0b0", "arrow d0 b0", "arrow c0 b0\n",
    "noarrow", "noarrow c0", "noarrow c2 b0",
    "noarrow c0 b0 ", "noarrow  c0 b0", "no arrow c0 b0", "noarrow b2 c0", "tells ", " tells", "tells c0", "tell",
    "could ", "could 1", "rows ",
    "rows 0", "row", "counts ", "count", "counts 00", "yes", "share yes", "worked", "seen", "whole", "copy",
    "quotient 00", "00", "0", "()",
]


def word_of(view):
    return "".join("-" if worth == -1 else str(worth) for worth in view)


def written(fraction):
    return "none" if fraction is None else f"{fraction[0]}/{fraction[1]}"


def desk_of(sizes, rows):
    desk = Desk(sizes)
    for number, view in enumerate(rows):
        assert desk.tell("add " + word_of(view)) == str(number)
    return desk


def plain_by_counting(views, wanted, told):
    """The answer by the rows without a blank alone, each as often as it comes."""
    rows = [view for view in views if -1 not in view and meets(told, view, pattern_of(view))]
    if not rows:
        return None
    return as_pair(Fraction(sum(meets(wanted, view, pattern_of(view)) for view in rows), len(rows)))


def plain_mean(views, column, told):
    rows = [view for view in views if -1 not in view and meets(told, view, pattern_of(view))]
    return as_pair(Fraction(sum(view[column] for view in rows), len(rows))) if rows else None


class Led(Checks):
    def state(self, desk):
        return [desk.tell(line) for line in ("rows", "counts", "tells")]

    def check(self, desk, account, arrows):
        """What the desk tells of rows and web, against an account of the test's own."""
        views = list(account.rows.values())
        self.tells(str(len(views)), desk.tell, "rows")
        counts = " ".join(f"{word_of(view)}:{views.count(view)}" for view in sorted(set(views)))
        self.tells(counts or "none", desk.tell, "counts")
        web = Web(len(account.sizes), tuple(sorted(arrows)))
        self.tells("no" if columns_tied(web) else "yes", desk.tell, "tells")

    def ask(self, dice, desk, account, arrows):
        sizes = account.sizes
        views = list(account.rows.values())
        wanted, told = [drawn_expression(dice, conditions_for(sizes), 6) for _ in range(2)]
        text = spaced(dice, ["share"] + wanted + ["if"] + told)
        self.tells(written(plain_by_counting(views, wanted, told)), desk.tell, "plain " + text)
        self.tells(written(plain_mean(views, 0, told)), desk.tell, "plain mean c0 if " + " ".join(told))
        if not views:
            for line in ["ask " + text, "bounds " + text, "could", "ask ", "bounds mean"]:
                self.raises(NoRows, {}, desk.tell, line)
            return
        seen = seen_of_rows(sizes, views)
        pair = bounds(seen, text)
        self.tells("none" if pair is None else f"{written(pair[0])} {written(pair[1])}", desk.tell, "bounds " + text)
        wrong = what_lacks(sizes, views)
        if wrong is None:
            self.tells(written(asked(calm_whole(seen), text)), desk.tell, "ask " + text)
        else:
            self.raises(*wrong, desk.tell, "ask " + text)
        self.ask_could(desk, sizes, views, Web(len(sizes), tuple(sorted(arrows))))

    def ask_could(self, desk, sizes, views, web):
        lack = what_lacks(sizes, views)
        if columns_tied(web):
            self.raises(NotTold, {"column": min(columns_tied(web))}, desk.tell, "could")
        elif {pattern_of(view) for view in views} != set(lots_of(len(sizes))):
            self.raises(NotAll, {}, desk.tell, "could")
        elif lack is not None:
            self.raises(*lack, desk.tell, "could")
        else:
            fits = fits_by_sums(web, calm_whole(seen_of_rows(sizes, views)))
            self.tells("yes" if fits else "no", desk.tell, "could")

    def lead(self, dice, desk, account, arrows):
        """A line that is drawn, and what it does, done by the test, too."""
        sizes = account.sizes
        view = tuple(dice.randrange(-1, size) for size in sizes)
        number = dice.randrange(account.upcoming + 2)
        kind = dice.randrange(9)
        if kind < 3:
            self.assertEqual(desk.tell("add " + word_of(view)), str(account.upcoming))
            account.add(view)
        elif kind < 5:
            line = f"mend {number} {word_of(view)}" if kind == 3 else f"strike {number}"
            if number not in account.rows:
                self.raises(NoRow, {}, desk.tell, line)
                return
            self.assertEqual(desk.tell(line), "ok")
            if kind == 3:
                account.mend(number, view)
            else:
                account.strike(number)
        elif kind == 5:
            if not account.past:
                self.raises(NothingDone, {}, desk.tell, "undo")
                return
            self.assertEqual(desk.tell("undo"), "ok")
            account.undo()
        else:
            self.lead_web(dice, desk, len(sizes), arrows)

    def lead_web(self, dice, desk, columns, arrows):
        arrow = (dice.randrange(2 * columns), dice.randrange(2 * columns))
        words = " ".join("cb"[thing // columns] + str(thing % columns) for thing in arrow)
        can_be = arrow[0] != arrow[1] and not arrow[0] >= columns > arrow[1] and not has_ring(2 * columns,
                                                                                              [*arrows, arrow])
        if dice.randrange(3) == 0:
            if arrow in arrows:
                self.assertEqual(desk.tell("noarrow " + words), "ok")
                arrows.remove(arrow)
            else:
                self.raises(NoArrow, {}, desk.tell, "noarrow " + words)
        elif can_be and arrow not in arrows:
            self.assertEqual(desk.tell("arrow " + words), "ok")
            arrows.add(arrow)
        else:
            self.raises(NoArrow, {}, desk.tell, "arrow " + words)

    def test_drawn_lines(self):
        dice = random.Random(1)
        for sizes in [(2,), (4,), (2, 2), (2, 3), (2, 2, 2), (2, 2, 2, 2)]:
            desk, account, arrows = Desk(sizes), Account(sizes), set()
            for _ in range(120):
                self.lead(dice, desk, account, arrows)
                self.check(desk, account, arrows)
                self.ask(dice, desk, account, arrows)

    def test_drawn_lines_where_all_views_stand(self):
        dice = random.Random(2)
        for sizes in [(2,), (2, 2), (2, 3), (2, 2, 2)]:
            views = views_of(sizes, lots_of(len(sizes)))
            desk, account, arrows = desk_of(sizes, views), Account(sizes), set()
            for view in views:
                account.add(view)
            for _ in range(60):
                self.lead(dice, desk, account, arrows)
                self.check(desk, account, arrows)
                self.ask(dice, desk, account, arrows)

    def test_could_for_webs_that_fit(self):
        # Rows as an even whole of independent columns and blanks would have them fit each web.
        for sizes in [(2,), (2, 2)]:
            rows = [view for view in views_of(sizes, lots_of(len(sizes))) for _ in range(2 ** view.count(-1))]
            desk = desk_of(sizes, rows)
            self.tells("yes", desk.tell, "could")
        desk = desk_of((2, 2), ROWS)
        self.tells("no", desk.tell, "could")
        self.assertEqual([desk.tell("arrow c0 c1"), desk.tell("could"), desk.tell("arrow b0 b1"), desk.tell("could")],
                         ["ok", "no", "ok", "yes"])


class ByHand(Checks):
    def test_a_tale(self):
        lines = ["rows", "counts", "tells", "could", "undo", "add 0", "add 0", "add 1", "add -", "rows", "counts",
                 "ask share c0=1",
                 "ask share c0=1 if b0", "ask mean c0 if yes", "bounds share c0=1", "bounds share c0=1 if b0",
                 "bounds share yes if no",
                 "plain share c0=1", "plain share b0", "plain mean c0 if c0=1", "could", "arrow c0 b0", "tells",
                 "could", "noarrow c0 b0",
                 "mend 1 1", "counts", "undo", "counts", "strike 2", "ask share c0=1", "counts", "undo", "undo",
                 "add 1", "strike 7",
                 "ask share yes if no", "ask share", "hello"]
        answers = ["0", "none", "yes", "(NoRows)", "(NothingDone)", "0", "1", "2", "3", "4", "-:1 0:2 1:1", "1/3",
                   "1/3", "1/3", "1/4 1/2", "0/1 1/1",
                   "none", "1/3", "0/1", "1/1", "yes", "ok", "no", "(NotTold)", "ok", "ok", "-:1 0:1 1:2", "ok",
                   "-:1 0:2 1:1", "ok",
                   "(NotFull)", "-:1 0:2", "ok", "ok", "3", "(NoRow)", "none", "(BadText)", "(NoLine)"]
        self.tells(answers, desk_tale, (2,), lines)
        self.tells(answers, desk_tale, (2,), tuple(lines))
        desk = Desk((2,))
        for line, answer in zip(lines, answers):
            if answer[0] == "(":
                with self.assertRaises(ValueError) as caught:
                    desk.tell(line)
                self.assertEqual(f"({caught.exception.__class__.__name__})", answer)
            else:
                self.assertEqual(desk.tell(line), answer)

    def test_the_rows_of_the_examples(self):
        desk = desk_of((2, 2), ROWS)
        for line, answer in [("rows", "20"), ("counts", "--:1 -0:2 -1:2 0-:3 00:4 01:2 1-:2 10:1 11:3"),
                             ("ask share c0=1 if b0", "2/5"),
                             ("ask mean c1 if not b1", "1/2"), ("bounds share c0=1", "3/10 11/20"),
                             ("plain share c0=1", "2/5"),
                             ("plain share c1=1 if c0=1", "3/4"), ("plain mean c1 if c0=0", "1/3"),
                             ("plain share b0 or b1", "0/1"),
                             ("plain share c0=1 if b0", "none"), ("ask share c0=1 if c0=0 and c0=1", "none"),
                             ("bounds share c0=1 if no", "none"), ("tells", "yes"), ("could", "no"), ("add --", "20"),
                             ("mend 20 0-", "ok"),
                             ("strike 20", "ok"), ("ask   share   (c0=1)if(b0) ", "2/5"), ("ask share yes", "1/1"),
                             ("ask share no", "0/1")]:
            self.assertEqual(desk.tell(line), answer, line)

    def test_worths_up_to_3_and_four_columns(self):
        desk = Desk((4, 4))
        self.assertEqual([desk.tell(line) for line in ("add 33", "add -3", "add 2-", "add 10")], ["0", "1", "2", "3"])
        self.tells("-3:1 10:1 2-:1 33:1", desk.tell, "counts")
        desk = Desk((2, 2, 4, 4))
        self.tells("0", lambda: Desk((2, 2, 4, 4)).tell("add 1--3"))
        for line in ("add 2000", "add 0040", "add 000", "add 00000"):
            self.raises(NoLine, {}, desk.tell, line)
        self.assertEqual([desk.tell("arrow c3 b3"), desk.tell("tells"), desk.tell("arrow b0 b2")], ["ok", "no", "ok"])
        self.raises(NoLine, {}, desk.tell, "arrow c4 b0")

    def test_plain_without_a_row_in_which_all_is_seen(self):
        desk = Desk((2, 2))
        for line in ["plain share yes", "plain share no", "plain mean c0 if yes"]:
            self.tells("none", desk.tell, line)
        desk.tell("add 0-")
        desk.tell("add --")
        self.tells("none", desk.tell, "plain share yes")
        desk.tell("add 01")
        # Contents that do not come have the share 0.
        for line, answer in [("share yes", "1/1"), ("share c0=1", "0/1"), ("share c0=1 if c1=0", "none"),
                             ("mean c1 if yes", "1/1"),
                             ("mean c0 if c0=1", "none"), ("share not b0", "1/1")]:
            self.tells(answer, desk.tell, "plain " + line)
        for text, at in [("", 0), ("share", 5), ("share c2=0", 6), ("mean c0", 7), ("share yes)", 9)]:
            self.raises(BadText, {"at": at}, desk.tell, "plain " + text)
            self.raises(BadText, {"at": at}, Desk((2, 2)).tell, "plain " + text)

    def test_numbers_come_again_behind_undo(self):
        desk = Desk((2, 2))
        for line, answer in [("add 00", "0"), ("add 01", "1"), ("undo", "ok"), ("add 0-", "1"), ("strike 0", "ok"),
                             ("add 01", "2"),
                             ("undo", "ok"), ("undo", "ok"), ("add 11", "2"), ("counts", "0-:1 00:1 11:1")]:
            self.assertEqual(desk.tell(line), answer, line)

    def test_numbers_of_nine_figures(self):
        desk = desk_of((2,), [(0,)])
        for line in ("strike 999999999", "strike 100000000", "mend 999999999 1", "strike 1", "mend 1 -"):
            self.raises(NoRow, {}, desk.tell, line)
        for line in ("strike 1000000000", "mend 1000000000 1", "strike 0000000000", "strike 01", "mend 00 1"):
            self.raises(NoLine, {}, desk.tell, line)

    def test_long_answers(self):
        views = views_of((2, 2, 4, 4), lots_of(4))
        rows = [view for place, view in enumerate(views) for _ in range(place % 7 + 1)]
        text = "share c0=1 and b0 if c3=1 or b1 and b2 and b3"
        told = desk_of((2, 2, 4, 4), rows).tell("ask " + text)
        self.assertEqual(told, written(asked(calm_whole(seen_of_rows((2, 2, 4, 4), rows)), text)))
        self.assertGreater(len(told), 800)

    def test_answers_of_more_figures_than_python_writes(self):
        desk = desk_of((2,), [(0,)])
        with unittest.mock.patch.object(desk.store, "ask", lambda text: (10 ** 5000 + 7, 10 ** 6000 + 1)):
            self.tells("1" + "0" * 4999 + "7/1" + "0" * 5999 + "1", desk.tell, "ask share yes")


class Arrows(Checks):
    def test_there_already_or_not_there_or_can_not_be(self):
        desk = Desk((2, 2))
        for line in ("noarrow c0 b0", "noarrow c0 c1", "noarrow b0 c0", "noarrow c0 c0", "arrow c0 c0", "arrow b1 b1",
                     "arrow b0 c0",
                     "arrow b0 c1"):
            self.raises(NoArrow, {}, desk.tell, line)
        self.assertEqual([desk.tell(line) for line in ("arrow c0 c1", "arrow c1 b0", "arrow b0 b1")], ["ok"] * 3)
        for line in ("arrow c0 c1", "arrow c1 c0", "arrow b1 b0", "arrow b0 b1", "noarrow c1 c0", "noarrow c0 b0"):
            self.raises(NoArrow, {}, desk.tell, line)
        self.assertEqual([desk.tell(line) for line in ("noarrow c0 c1", "arrow c1 c0")], ["ok"] * 2)
        self.raises(NoArrow, {}, desk.tell, "noarrow c0 c1")

    def test_rings_over_several_things(self):
        desk = Desk((2, 2, 2))
        self.assertEqual([desk.tell(line) for line in ("arrow c0 c1", "arrow c1 c2")], ["ok"] * 2)
        self.raises(NoArrow, {}, desk.tell, "arrow c2 c0")
        self.assertEqual([desk.tell(line) for line in ("arrow b2 b1", "arrow b1 b0")], ["ok"] * 2)
        self.raises(NoArrow, {}, desk.tell, "arrow b0 b2")
        self.assertEqual([desk.tell(line) for line in ("noarrow b1 b0", "arrow b0 b2")], ["ok"] * 2)

    def test_ties(self):
        desk = Desk((2, 2))
        for line, answer in [("tells", "yes"), ("arrow c0 b1", "ok"), ("tells", "yes"), ("arrow b0 b1", "ok"),
                             ("tells", "no"),
                             ("noarrow c0 b1", "ok"), ("tells", "yes"), ("arrow c1 b1", "ok"), ("tells", "no"),
                             ("noarrow c1 b1", "ok"),
                             ("arrow c1 b0", "ok"), ("tells", "yes")]:
            self.assertEqual(desk.tell(line), answer, line)

    def test_undo_takes_back_no_arrow(self):
        desk = Desk((2,))
        desk.tell("add 0")
        desk.tell("arrow c0 b0")
        self.assertEqual([desk.tell(line) for line in ("undo", "tells", "rows")], ["ok", "no", "0"])
        self.raises(NothingDone, {}, desk.tell, "undo")


class Wrong(Checks):
    def unchanged(self, error, fields, desk, line):
        before = (desk.tell("rows"), desk.tell("counts"), desk.tell("tells"))
        self.raises(error, fields, desk.tell, line)
        self.assertEqual((desk.tell("rows"), desk.tell("counts"), desk.tell("tells")), before)

    def test_lines_of_no_form(self):
        for desk in (desk_of((2, 3), [(0, 0), (1, 2)]), Desk((2, 3))):
            for line in WRONG_LINES + odd_numbers() + [["add 00"], ("add", "00"), b"add 00", ("add 00",),
                                                       {"add": "00"}]:
                self.unchanged(NoLine, {}, desk, line)
            for make in (lambda thing: (thing,), lambda thing: [thing], lambda thing: {0: thing}):
                self.unchanged(NoLine, {}, desk, deep(make, 40))
            self.unchanged(NoLine, {}, desk, "add " + "0" * 20000)
            self.unchanged(NoLine, {}, desk, "add" + " 0" * 20000)
            self.unchanged(NoLine, {}, desk, "strike " + "9" * 20000)

    def test_each_sign_behind_and_ahead_of_a_line(self):
        desk = desk_of((2, 2), [(0, 0)])
        for code in [10] + list(range(32, 127)):
            for line in ("add 00", "undo", "tells", "rows", "counts", "could", "strike 0", "arrow c0 b0"):
                if line + chr(code) not in ["strike 0" + figure for figure in "0123456789"]:
                    self.unchanged(NoLine, {}, desk, line + chr(code))
                self.unchanged(NoLine, {}, desk, chr(code) + line)
        self.unchanged(NoLine, {}, desk, "strike 00")

    def test_no_rows_ahead_of_all_else(self):
        desk = Desk((2, 2))
        desk.tell("arrow c0 b0")
        for line in ["ask share yes", "ask ", "ask zz", "bounds share yes", "bounds ", "bounds mean c0 if yes",
                     "could"]:
            self.unchanged(NoRows, {}, desk, line)
        self.unchanged(BadText, {"at": 0}, desk, "plain ")
        self.tells("none", desk.tell, "plain share yes")

    def test_the_order_of_what_is_raised_by_what_is_asked(self):
        desk = desk_of((2, 2), [(-1, 0)])
        for text in ["share yes", "", "zz"]:
            self.unchanged(NotFull, {"view": (-1, 1)}, desk, "ask " + text)
        desk.tell("add -1")
        for text in ["share yes", "", "zz"]:
            self.unchanged(NotClosed, {"pattern": (0, 1)}, desk, "ask " + text)
        self.unchanged(BadText, {"at": 0}, desk, "bounds ")
        self.unchanged(BadText, {"at": 0}, desk, "bounds   mean c0 if yes")
        self.unchanged(BadText, {"at": 5}, desk, "bounds mean c2 if yes")
        self.unchanged(BadText, {"at": 7}, desk, "bounds   share")
        self.unchanged(NotAll, {}, desk, "could")
        desk.tell("arrow c1 b1")
        self.unchanged(NotTold, {"column": 1}, desk, "could")
        desk = desk_of((2, 2), [(0, 0), (0, -1), (-1, 0), (-1, -1)])
        self.unchanged(NotFull, {"view": (-1, 1)}, desk, "could")
        desk = desk_of((2, 2), ROWS)
        for text, at in [("", 0), (" ", 1), ("share", 5), ("share c0=2", 6), ("  zz", 2), ("share yes\n", 6)]:
            self.unchanged(BadText, {"at": at}, desk, "ask " + text)
            self.unchanged(BadText, {"at": at}, desk, "bounds " + text)
            self.unchanged(BadText, {"at": at}, desk, "plain " + text)

    def test_bad_sizes(self):
        for sizes in WRONG_SIZES + odd_things():
            self.raises(BadSizes, {}, Desk, sizes)
            self.raises(BadSizes, {}, desk_tale, sizes, ["rows"])
            self.raises(BadSizes, {}, desk_tale, sizes, None)
        for sizes in sizes_of_all()[::3]:
            self.tells(["0"], desk_tale, sizes, ["rows"])

    def test_no_lines(self):
        for lines in [None, 0, "rows", "", b"rows", {"rows": 1}, {}, True, range(2), halves(), (line for line in "ab")]:
            self.raises(NoLines, {}, desk_tale, (2,), lines)
        for thing in odd_numbers():
            if not isinstance(thing, (list, tuple)):
                self.raises(NoLines, {}, desk_tale, (2,), thing)
            else:
                self.tells(["(NoLine)"] * len(thing), desk_tale, (2,), thing)

    def test_a_tale_of_wrong_lines(self):
        self.tells([], desk_tale, (2,), [])
        self.tells([], desk_tale, (2,), ())
        lines = [line for line in WRONG_LINES if line not in ("add 0", "mend 0 0", "add -")] + odd_things()
        self.tells(["(NoLine)"] * len(lines), desk_tale, (2, 3), lines)
        tale = [("mend 0 -", "(NoRow)"), ("noarrow c0 b0", "(NoArrow)"), ("plain ", "(BadText)"), ("could", "(NoRows)"),
                ("ask ", "(NoRows)"), ("add 0", "0"), ("could", "(NotAll)"), ("ask ", "(NotFull)"), ("add 1", "1"),
                ("ask share yes", "1/1"), ("ask ", "(BadText)"), ("arrow c0 b0", "ok"), ("could", "(NotTold)"),
                ("bounds ", "(BadText)"), ("bounds mean c0 if yes", "(BadText)"), ("strike 2", "(NoRow)"),
                ("undo", "ok"),
                ("undo", "ok"), ("undo", "(NothingDone)"), ("add -", "0"), ("ask ", "(NotClosed)")]
        self.tells([answer for _, answer in tale], desk_tale, (2,), [line for line, _ in tale])


class General(Checks):
    def test_nothing_passed_is_changed_and_equal_calls_give_equal_answers(self):
        lines = ["add 0", "add 1", "add -", "ask share c0=1", "counts"]
        before = frozen(lines)
        told = desk_tale((2,), lines)
        told.append("more")
        self.assertEqual(desk_tale((2,), lines), told[:-1])
        self.assertEqual(frozen(lines), before)

    def test_kinds(self):
        desk = desk_of((2, 2), ROWS)
        for line in ["add 00", "mend 0 01", "strike 0", "undo", "ask share yes", "bounds share yes", "plain share yes",
                     "arrow c0 b0",
                     "noarrow c0 b0", "tells", "could", "rows", "counts"]:
            self.assertIs(desk.tell(line).__class__, str)

    def test_desks_are_led_apart(self):
        one, other = Desk((2,)), Desk((2,))
        one.tell("add 0")
        one.tell("arrow c0 b0")
        self.assertEqual([other.tell(line) for line in ("rows", "counts", "tells")], ["0", "none", "yes"])
        self.assertFalse(one == other)
        for thing in odd_things():
            self.assertFalse(one == thing)
            self.assertTrue(one != thing)


if __name__ == "__main__":
    unittest.main()
