"""Seen tables and webs as texts, and read from them (14)."""

import itertools
import unittest
from fractions import Fraction

from calmblanks.errors import BadSeen, BadText, BadWeb
from calmblanks.reading import read_seen, read_web
from calmblanks.tables import Seen, Whole, hidden, mixed, seen_of_rows
from calmblanks.texts import seen_text, web_text
from calmblanks.webs import Web
from tests.helper import (ROWS, SIXTY, Checks, as_pair, bare_whole, frozen, halves, lots_of, odd_things, picked_webs,
                          uneven, webs_of, weighed)
from tests.test_webs import fullest

SEEN_TEXT = "sizes 2 3\n- - : 1 6\n- 2 : 1 3\n0 - : 1 4\n1 1 : 1 4\n"
SEEN = Seen((2, 3), (((-1, -1), (1, 6)), ((-1, 2), (1, 3)), ((0, -1), (1, 4)), ((1, 1), (1, 4))))
WEB_TEXT = "columns 2\nc0 > c1\nc0 > b1\nb0 > b1\n"
WEB = Web(2, ((0, 1), (0, 3), (2, 3)))
# Words that are no numbers as the texts have them.
WRONG_NUMBERS = ["", "-1", "+1", "01", "00", "1.0", "1_0", "0x1", "a", "1a", "one", ":", ">", "--", "1,", "(1)", "c0", "1e3",
                 "1" * 61, "0" * 60, "9" * 400, "-0", "'1'"]
FIGURES = ["0", "1", "9", "10", "4", "17", "1" * 60, "9" * 60, str(SIXTY), "1" + "0" * 59]


def some_seens():
    yield SEEN
    yield halves()
    yield seen_of_rows((2, 2), ROWS)
    for sizes in [(4,), (2, 3), (4, 4, 4), (2, 3, 2), (2, 2, 2, 2)]:
        for own in (lots_of(len(sizes)), lots_of(len(sizes))[:1], lots_of(len(sizes))[1::2]):
            yield hidden(uneven(sizes, own, 1))
    yield Seen((2,), (((-1,), (1, 1)),))


def text_by_hand(seen):
    lines = ["sizes " + " ".join(str(size) for size in seen.sizes)]
    for view, (top, bottom) in seen.shares:
        lines.append(f"{' '.join('-' if worth < 0 else str(worth) for worth in view)} : {top} {bottom}")
    return "".join(line + "\n" for line in lines)


class Writing(Checks):
    def test_a_seen_table(self):
        self.tells(SEEN_TEXT, seen_text, SEEN)
        self.tells("sizes 2\n0 : 1 2\n1 : 1 2\n", seen_text, halves())
        self.tells("sizes 4\n- : 1 1\n", seen_text, Seen((4,), (((-1,), (1, 1)),)))
        self.tells("sizes 2 2 4 4\n1 - 3 0 : 1 1\n", seen_text, seen_of_rows((2, 2, 4, 4), [(1, -1, 3, 0)]))

    def test_the_rows_of_the_examples(self):
        answer = ("sizes 2 2\n- - : 1 20\n- 0 : 1 10\n- 1 : 1 10\n0 - : 3 20\n0 0 : 1 5\n0 1 : 1 10\n1 - : 1 10\n"
                  "1 0 : 1 20\n1 1 : 3 20\n")
        self.tells(answer, seen_text, seen_of_rows((2, 2), ROWS))

    def test_seen_tables_worked_out_another_way(self):
        for seen in some_seens():
            self.tells(text_by_hand(seen), seen_text, seen)

    def test_webs(self):
        self.tells("columns 2\nc0 > b1\nb0 > b1\n", web_text, Web(2, ((0, 3), (2, 3))))
        self.tells(WEB_TEXT, web_text, WEB)
        self.tells("columns 1\n", web_text, Web(1, ()))
        self.tells("columns 1\nc0 > b0\n", web_text, Web(1, ((0, 1),)))
        self.tells("columns 4\nc1 > c0\nc3 > b3\nb3 > b0\n", web_text, Web(4, ((1, 0), (3, 7), (7, 4))))

    def test_webs_worked_out_another_way(self):
        for web in webs_of(1) + webs_of(2) + picked_webs(3, 10) + [Web(4, fullest(4))]:
            names = [f"c{column}" for column in range(web.columns)] + [f"b{column}" for column in range(web.columns)]
            lines = [f"columns {web.columns}"] + [f"{names[tail]} > {names[head]}" for tail, head in web.arrows]
            self.tells("\n".join(lines) + "\n", web_text, web)

    def test_sixty_figures(self):
        seen = Seen((2,), (((0,), (1, SIXTY)), ((1,), (SIXTY - 1, SIXTY))))
        self.tells(f"sizes 2\n0 : 1 {SIXTY}\n1 : {SIXTY - 1} {SIXTY}\n", seen_text, seen)

    def test_numbers_of_any_size(self):
        for bottom in (10 ** 64, 10 ** 64 - 1, 10 ** 64 + 1, 10 ** 128, 3 * 10 ** 127 + 7, 10 ** 192 + 10 ** 64):
            seen = Seen((2,), (((0,), (1, bottom)), ((1,), (bottom - 1, bottom))))
            self.tells(f"sizes 2\n0 : 1 {bottom}\n1 : {bottom - 1} {bottom}\n", seen_text, seen)

    def test_numbers_of_more_figures_than_python_writes(self):
        whole = bare_whole()
        for _ in range(90):
            whole = mixed(whole, weighed((2,), [(0,)], [1, 4]), (SIXTY - 2, SIXTY))
        seen = hidden(whole)
        lines = seen_text(seen).split("\n")
        self.assertEqual([lines[0], lines[3:]], ["sizes 2", [""]])
        for line, (view, fraction) in zip(lines[1:3], seen.shares):
            words = line.split(" ")
            self.assertEqual(words[:2], [str(view[0]), ":"])
            for word, number in zip(words[2:], fraction):
                self.assertGreater(len(word), 5000)
                told = 0
                for sign in word:
                    told = told * 10 + "0123456789".index(sign)
                self.assertEqual(told, number)
                self.assertNotEqual(word[0], "0")


class ReadingSeens(Checks):
    def test_what_was_written(self):
        for seen in some_seens():
            self.tells(seen, read_seen, seen_text(seen))
        self.tells(SEEN, read_seen, SEEN_TEXT)

    def test_sixty_figures(self):
        for bottom in (SIXTY, 10 ** 59 + 1):
            seen = Seen((2,), (((0,), (1, bottom)), ((1,), as_pair(1 - Fraction(1, bottom)))))
            self.tells(seen, read_seen, seen_text(seen))

    def test_sixty_one_figures(self):
        for line in ["0 : 1 " + "1" * 61, "0 : " + "1" * 61 + " 2", "1" * 61 + " : 1 2"]:
            self.raises(BadText, {"at": 2}, read_seen, "sizes 2\n" + line + "\n")
        self.raises(BadText, {"at": 1}, read_seen, "sizes " + "2" * 61 + "\n0 : 1 1\n")
        self.raises(BadText, {"at": 2}, read_seen, "sizes 2\n0 : 1 1" + "0" * 60 + "\n")
        long = Seen((2,), (((0,), (1, 10 ** 60)), ((1,), (10 ** 60 - 1, 10 ** 60))))
        self.raises(BadText, {"at": 2}, read_seen, seen_text(long))

    def test_no_string(self):
        for thing in odd_things() + [0, 1, SEEN_TEXT.encode(), [SEEN_TEXT], (SEEN_TEXT,), SEEN_TEXT.split("\n"), {}, SEEN]:
            if not isinstance(thing, str):
                self.raises(BadText, {"at": 0}, read_seen, thing)

    def test_a_first_line_that_is_none(self):
        for line in ["", "size 2", "Sizes 2", "sizes2", " sizes 2", "sizes 2 ", "sizes  2", "sizes ", "2", "sizes -", "sizes 2 :",
                     "0 : 1 1", "columns 2", "sizes 2 3,", "sizes\t2", "sizessizes", ":", "sizes sizes 2"]:
            self.raises(BadText, {"at": 1}, read_seen, line + "\n0 : 1 1\n")
            self.raises(BadText, {"at": 1}, read_seen, line + "\nwrong, too\n")
        for word in WRONG_NUMBERS:
            self.raises(BadText, {"at": 1}, read_seen, f"sizes {word}\n0 : 1 1\n")
            self.raises(BadText, {"at": 1}, read_seen, f"sizes 2 {word} 2\n")

    def test_no_first_line(self):
        self.raises(BadText, {"at": 1}, read_seen, "")
        self.raises(BadText, {"at": 1}, read_seen, "\n")
        self.raises(BadText, {"at": 1}, read_seen, "sizes 2")
        self.raises(BadText, {"at": 1}, read_seen, "anything")
        self.raises(BadText, {"at": 1}, read_seen, " ")

    def test_sizes_in_any_number(self):
        for line in ["sizes", "sizes 2 2 2 2 2", "sizes 1", "sizes 0", "sizes 2 5", "sizes 4 4 4 2", "sizes " + "9" * 60,
                     "sizes" + " 2" * 100]:
            self.raises(BadSeen, {"part": "sizes"}, read_seen, line + "\n")
            self.raises(BadSeen, {"part": "sizes"}, read_seen, line + "\n0 : 1 1\n")
            self.raises(BadText, {"at": 2}, read_seen, line + "\n0 : 1\n")

    def test_a_later_line_that_has_not_the_form(self):
        lines = ["", " ", "0", "0 :", "0 : 1", "0 : 1 1 1", "0 1 1", "0: 1 1", "0 :1 1", "0 : 1/1", "0  : 1 1", "0 :  1 1",
                 "0 : 1  1", " 0 : 1 1", "0 : 1 1 ", "0 ; 1 1", "0 : 1 : 1", "0 : : 1 1", ": 0 : 1 1", "0 : - 1", "0 : 1 -",
                 "sizes 2", "c0 > b1", "-- : 1 1", "-1 : 1 1", "0 : -1 1", "0 : 1 -1", "0\t: 1 1", "0- : 1 1", "_ : 1 1",
                 ": 1", ":", "1 1", " : 1 1", "0 : one 1"]
        for line in lines:
            self.raises(BadText, {"at": 2}, read_seen, f"sizes 2\n{line}\n")
            self.raises(BadText, {"at": 2}, read_seen, f"sizes 2\n{line}\n{line}\nleft")
            self.raises(BadText, {"at": 4}, read_seen, f"sizes 2\n0 : 1 2\n1 : 1 2\n{line}\n")
            # The form comes ahead of what the numbers can't be.
            self.raises(BadText, {"at": 4}, read_seen, f"sizes 9\n7 : 1 2\n7 : 9 2\n{line}\n")
        for word in WRONG_NUMBERS:
            self.raises(BadText, {"at": 3}, read_seen, f"sizes 2\n0 : 1 2\n1 : {word} 2\n")
            self.raises(BadText, {"at": 3}, read_seen, f"sizes 2\n0 : 1 2\n1 : 1 {word}\n")
            self.raises(BadText, {"at": 3}, read_seen, f"sizes 2\n0 : 1 2\n{word} : 1 2\n")
            self.raises(BadText, {"at": 3}, read_seen, f"sizes 2\n0 : 1 2\n- {word} : 1 2\n")

    def test_numbers_of_any_size_up_to_sixty_figures(self):
        for word in FIGURES:
            told = "sizes" if word not in ("4",) else 0
            self.raises(BadSeen, {"part": told}, read_seen, f"sizes {word}\n9 : 1 1\n")
            if word not in ("0", "1"):
                self.raises(BadSeen, {"part": 0}, read_seen, f"sizes 2\n{word} : 1 1\n")
                self.raises(BadSeen, {"part": "sum"}, read_seen, f"sizes 2\n0 : 1 {word}\n")

    def test_something_behind_the_last_line_feed(self):
        self.raises(BadText, {"at": 6}, read_seen, SEEN_TEXT + "0 0 : 1 4")
        self.raises(BadText, {"at": 6}, read_seen, SEEN_TEXT + " ")
        self.raises(BadText, {"at": 5}, read_seen, SEEN_TEXT[:-1])
        self.raises(BadText, {"at": 3}, read_seen, "sizes 2\n0 : 1 2\n1 : 1 2")
        self.raises(BadText, {"at": 2}, read_seen, "sizes 2\nwrong")
        self.raises(BadText, {"at": 2}, read_seen, "sizes 2\nwrong\n1 : 1 2")
        self.raises(BadText, {"at": 6}, read_seen, SEEN_TEXT + "\n")
        # It comes ahead of what the numbers can't be.
        self.raises(BadText, {"at": 3}, read_seen, "sizes 9\n0 : 2 2\n ")

    def test_what_the_numbers_can_not_be(self):
        for lines, part in [
                (["0 : 2 4", "1 : 1 2"], 0), (["0 : 1 2", "1 : 2 4"], 1), (["0 : 0 1", "1 : 1 1"], 0), (["0 : 1 0", "1 : 1 2"], 0),
                (["0 : 0 0"], 0), (["0 : 1 2", "0 : 1 2"], 1), (["1 : 1 2", "0 : 1 2"], 1), (["0 : 1 2", "2 : 1 2"], 1),
                (["0 0 : 1 2", "1 : 1 2"], 0), (["0 : 1 2", "1 - : 1 2"], 1), ([": 1 1"], 0), (["0 : 1 2", ": 1 2"], 1),
                (["0 : 1 2", "- : 1 2"], 1), (["0 : 1 2", "1 : 1 3"], "sum"), ([], "sum"), (["0 : 3 2"], "sum"),
                (["- : 1 2", "0 : 1 4", "1 : 1 2"], "sum"), (["- - - - - - : 1 1"], 0), (["0 : 1 1", "1 : 6 3"], 1)]:
            self.raises(BadSeen, {"part": part}, read_seen, "sizes 2\n" + "".join(line + "\n" for line in lines))

    def test_each_line_left_out(self):
        lines = SEEN_TEXT.split("\n")[:-1]
        for place in range(1, len(lines)):
            text = "".join(line + "\n" for line in lines[:place] + lines[place + 1:])
            self.raises(BadSeen, {"part": "sum"}, read_seen, text)
        self.raises(BadText, {"at": 1}, read_seen, "".join(line + "\n" for line in lines[1:]))

    def test_any_sign_put_in_or_taken_out(self):
        for place, sign in itertools.product(range(len(SEEN_TEXT)), " \n-:0"):
            text = SEEN_TEXT[:place] + sign + SEEN_TEXT[place:]
            try:
                told = read_seen(text)
            except (BadText, BadSeen):
                continue
            self.assertEqual(seen_text(told), text)
        for place in range(len(SEEN_TEXT)):
            text = SEEN_TEXT[:place] + SEEN_TEXT[place + 1:]
            try:
                told = read_seen(text)
            except (BadText, BadSeen):
                continue
            self.assertEqual(seen_text(told), text)


class ReadingWebs(Checks):
    def test_what_was_written(self):
        for web in webs_of(1) + webs_of(2) + picked_webs(3, 10) + picked_webs(4, 10) + [Web(4, fullest(4))]:
            self.tells(web, read_web, web_text(web))
        self.tells(WEB, read_web, WEB_TEXT)

    def test_no_string(self):
        for thing in odd_things() + [0, 1, WEB_TEXT.encode(), [WEB_TEXT], (WEB_TEXT,), WEB_TEXT.split("\n"), {}, WEB]:
            if not isinstance(thing, str):
                self.raises(BadText, {"at": 0}, read_web, thing)

    def test_a_first_line_that_is_none(self):
        for line in ["", "column 2", "Columns 2", "columns2", " columns 2", "columns 2 ", "columns  2", "columns ", "columns",
                     "2", "columns 2 2", "columns -", "sizes 2", "c0 > b1", "columns\t2", "columns columns"]:
            self.raises(BadText, {"at": 1}, read_web, line + "\nc0 > b1\n")
            self.raises(BadText, {"at": 1}, read_web, line + "\nwrong, too\n")
        for word in WRONG_NUMBERS:
            self.raises(BadText, {"at": 1}, read_web, f"columns {word}\n")

    def test_no_first_line(self):
        for text in ["", "\n", "columns 2", "anything", " ", "c0 > b1"]:
            self.raises(BadText, {"at": 1}, read_web, text)

    def test_a_later_line_that_has_not_the_form(self):
        for line in ["", " ", "c0", "c0 >", "> b1", "c0 b1", "c0 > b1 > b0", "c0>b1", "c0 >b1", "c0 > b1 ", " c0 > b1", "c0  > b1",
                     "c0 >  b1", "c0 < b1", "c0 -> b1", "0 > 3", "C0 > b1", "c0 > B1", "a0 > b1", "c > b1", "c0 > b", "c 0 > b1",
                     "c0 > b 1", "cc0 > b1", "c0 > bb1", "c0 > b1,", "columns 2", "0 : 1 1", "c0 > b1 c1 > b0", "c0\t> b1", "cb0 > b1"]:
            self.raises(BadText, {"at": 2}, read_web, f"columns 2\n{line}\n")
            self.raises(BadText, {"at": 2}, read_web, f"columns 2\n{line}\n{line}\nleft")
            self.raises(BadText, {"at": 3}, read_web, f"columns 2\nc0 > b1\n{line}\n")
            # The form comes ahead of what the numbers can't be.
            self.raises(BadText, {"at": 4}, read_web, f"columns 7\nc9 > b1\nb0 > c0\n{line}\n")
        for word in WRONG_NUMBERS:
            for kind in "cb":
                self.raises(BadText, {"at": 3}, read_web, f"columns 2\nc0 > b1\n{kind}{word} > b0\n")
                self.raises(BadText, {"at": 3}, read_web, f"columns 2\nc0 > b1\nc1 > {kind}{word}\n")

    def test_something_behind_the_last_line_feed(self):
        self.raises(BadText, {"at": 5}, read_web, WEB_TEXT + "b0 > b1")
        self.raises(BadText, {"at": 5}, read_web, WEB_TEXT + " ")
        self.raises(BadText, {"at": 4}, read_web, WEB_TEXT[:-1])
        self.raises(BadText, {"at": 5}, read_web, WEB_TEXT + "\n")
        self.raises(BadText, {"at": 2}, read_web, "columns 9\nwrong")
        self.raises(BadText, {"at": 2}, read_web, "columns 9\nwrong\n ")

    def test_columns_in_any_number(self):
        for word in FIGURES:
            if word not in ("1", "4"):
                self.raises(BadWeb, {"part": "columns"}, read_web, f"columns {word}\n")
                self.raises(BadWeb, {"part": "columns"}, read_web, f"columns {word}\nb0 > c0\n")
        self.tells(Web(4, ()), read_web, "columns 4\n")

    def test_things_of_any_number(self):
        for columns in (1, 2, 3, 4):
            for number in [columns, columns + 1, 2 * columns - 1, 2 * columns, 9, 10, SIXTY, 10 ** 59]:
                if number >= columns:
                    for kind in "cb":
                        self.raises(BadWeb, {"part": 0}, read_web, f"columns {columns}\n{kind}{number} > b0\n")
                        self.raises(BadWeb, {"part": 0}, read_web, f"columns {columns}\nc0 > {kind}{number}\n")
                        self.raises(BadWeb, {"part": 1}, read_web, f"columns {columns}\nc0 > b0\nc0 > {kind}{number}\n")

    def test_a_column_that_is_not_there_is_no_blank(self):
        # Counted on, c2 of two columns would be the blank of column 0.
        self.raises(BadWeb, {"part": 0}, read_web, "columns 2\nc2 > b1\n")
        self.raises(BadWeb, {"part": 0}, read_web, "columns 2\nc0 > c2\n")
        self.raises(BadWeb, {"part": 0}, read_web, "columns 1\nc0 > c1\n")
        self.tells(Web(2, ((2, 3),)), read_web, "columns 2\nb0 > b1\n")

    def test_what_the_arrows_can_not_be(self):
        for lines, part in [
                (["b0 > c0"], 0), (["b0 > c1"], 0), (["c0 > c0"], 0), (["b1 > b1"], 0), (["c0 > b1", "c0 > b1"], 1),
                (["c1 > b0", "c0 > b1"], 1), (["b0 > b1", "c0 > c1"], 1), (["c0 > c1", "c1 > c0"], "ring"),
                (["c0 > c1", "c1 > c0", "b0 > c0"], 2), (["b0 > b1", "b1 > b0"], "ring"), (["c0 > b0", "c0 > c1"], 1)]:
            self.raises(BadWeb, {"part": part}, read_web, "columns 2\n" + "".join(line + "\n" for line in lines))

    def test_any_sign_put_in_or_taken_out(self):
        texts = [WEB_TEXT[:place] + sign + WEB_TEXT[place:] for place in range(len(WEB_TEXT)) for sign in " \n>cb01"]
        texts += [WEB_TEXT[:place] + WEB_TEXT[place + 1:] for place in range(len(WEB_TEXT))]
        for text in texts:
            try:
                told = read_web(text)
            except (BadText, BadWeb):
                continue
            self.assertEqual(web_text(told), text)

    def test_equal_calls_give_equal_answers(self):
        self.assertEqual(frozen(read_web(WEB_TEXT)), frozen(read_web(WEB_TEXT)))
        self.assertEqual(frozen(read_seen(SEEN_TEXT)), frozen(read_seen(SEEN_TEXT)))
        self.assertNotIsInstance(read_seen(SEEN_TEXT), Whole)


if __name__ == "__main__":
    unittest.main()
