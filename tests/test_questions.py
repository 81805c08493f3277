"""Questions and their answers (9.1)."""

import ast
import itertools
import random
import re
import unittest
from fractions import Fraction

from calmblanks.calm import calm_whole
from calmblanks.errors import BadText, BadTilts, NotClosed, NotFull
from calmblanks.questions import asked, asked_calm, asked_tilted
from calmblanks.tables import hidden, mixed, seen_of_rows
from calmblanks.tilts import tilted_whole
from tests.helper import (ROWS, SIXTY, Checks, as_pair, bare_whole, closed_families, drawn_tilts, lots_of, odd_numbers,
                          odd_things, uneven, weighed)
from tests.test_calm_whole import seen_weighed

SEEN = seen_of_rows((2, 2), ROWS)
CALM = calm_whole(SEEN)
WHOLE = uneven((2, 3), lots_of(2), 1)
TILTS = (((1, 1), (2, 3)), ((1, 1), (5, 1)))
WORDS = ["share", "mean", "if", "c0", "c1=1", "b0", "yes", "not", "and", "or", "(", ")", "c2", "zz"]
CONDITIONS = ("c0=0", "c0=1", "c1=0", "c1=1", "c1=2", "b0", "b1", "yes", "no")


def conditions_for(sizes):
    return (["yes", "no"] + [f"b{column}" for column in range(len(sizes))]
            + [f"c{column}={worth}" for column, size in enumerate(sizes) for worth in range(size)])


def drawn_expression(dice, conditions, most):
    """Words of an expression that is drawn."""
    kind = dice.randrange(6) if most > 1 else 0
    if kind <= 1:
        return [dice.choice(conditions)]
    if kind == 2:
        return ["not"] + drawn_expression(dice, conditions, most - 1)
    if kind == 3:
        return ["("] + drawn_expression(dice, conditions, most - 1) + [")"]
    one = drawn_expression(dice, conditions, most // 2)
    other = drawn_expression(dice, conditions, most // 2)
    return one + ["and" if kind == 4 else "or"] + other


def spaced(dice, words):
    """The words with one blank between, several, or none beside a parenthesis, and perhaps some ahead and behind."""
    text = " " * dice.randrange(3)
    for place, word in enumerate(words):
        beside = place == 0 or word in "()" or words[place - 1] in "()"
        text += " " * (dice.randrange(3) if beside else 1 + dice.randrange(3)) + word
    return text + " " * dice.randrange(3)


def meets(words, content, pattern):
    """Whether a content and pattern meet an expression, as Python reads not, and, or."""
    if isinstance(words, str):
        words = words.replace("(", " ( ").replace(")", " ) ").split()
    parts = []
    for word in words:
        if word[0] == "c":
            column, worth = word[1:].split("=")
            parts.append(str(content[int(column)] == int(worth)))
        elif word[0] == "b":
            parts.append(str(int(word[1:]) not in pattern))
        else:
            parts.append({"yes": "True", "no": "False"}.get(word, word))
    return eval(" ".join(parts))


def counted(whole, wanted, told):
    """The answer to a share question, by Python's fractions and its own not, and, or."""
    rows = [(key, Fraction(*fraction)) for key, fraction in whole.shares if meets(told, *key)]
    total = sum(fraction for _, fraction in rows)
    return as_pair(sum(fraction for key, fraction in rows if meets(wanted, *key)) / total) if total else None


def mean_counted(whole, column, told):
    rows = [(key, Fraction(*fraction)) for key, fraction in whole.shares if meets(told, *key)]
    total = sum(fraction for _, fraction in rows)
    return as_pair(sum(content[column] * fraction for (content, _), fraction in rows) / total) if total else None


def is_expression(words):
    """Whether Python takes the words, names put for conditions, as names joined by not, and, or alone."""
    names = ["x" if re.fullmatch("c[01]=[01]|b[01]|yes|no", word) else word for word in words]
    if any(word not in ("x", "not", "and", "or", "(", ")") for word in names):
        return False
    try:
        tree = ast.parse(" ".join(names), mode="eval")
    except SyntaxError:
        return False
    return all(isinstance(node, (ast.Expression, ast.BoolOp, ast.UnaryOp, ast.Name, ast.And, ast.Or, ast.Not, ast.Load))
               for node in ast.walk(tree))


def is_question(words):
    """Whether the words are a question about two columns of two worths."""
    if words[:1] == ("share",):
        if "if" in words:
            at = words.index("if")
            return is_expression(words[1:at]) and is_expression(words[at + 1:])
        return is_expression(words[1:])
    return words[:1] == ("mean",) and words[1:3] in (("c0", "if"), ("c1", "if")) and is_expression(words[3:])


def can_go_on(words):
    """Whether some words behind make a question of these."""
    depth = words.count("(") - words.count(")")
    for behind in [(), ("yes",), ("share", "yes"), ("c0", "if", "yes"), ("if", "yes")]:
        if any(is_question(words + behind + (")",) * many) or is_question(words + behind + (")",) * many + ("if",
                                                                                                            "yes"))
               for many in range(max(depth, 0) + 1)):
            return True
    return False


class Answers(Checks):
    def test_the_example(self):
        self.tells((2, 5), asked, CALM, "share c0=1 if b0")
        self.tells((1, 2), asked, CALM, "mean c1 if not b1")

    def test_the_rows_of_the_example_by_hand(self):
        # By the contents alone 2/5, 1/5, 1/10, 3/10; column 0 is blank in a quarter, column 1 in 6 of 20.
        for text, answer in [("share c0=1", (2, 5)), ("share c1=1", (1, 2)), ("share b0", (1, 4)),
                             ("share b1", (3, 10)),
                             ("share not b0", (3, 4)), ("share b0 and b1", (1, 20)), ("share b0 or b1", (1, 2)),
                             ("share c0=0 and c1=0", (2, 5)), ("share c0=0 or c1=0", (7, 10)), ("share yes", (1, 1)),
                             ("share no", (0, 1)), ("share c1=1 if c0=1", (3, 4)), ("share c0=1 if c1=1", (3, 5)),
                             ("share yes if b0", (1, 1)), ("share no if b0", (0, 1)), ("mean c0 if yes", (2, 5)),
                             ("mean c1 if c0=1", (3, 4)), ("mean c0 if c0=0", (0, 1)), ("mean c0 if c0=1", (1, 1)),
                             ("share yes if no", None), ("mean c0 if no", None), ("share c0=1 if c0=0 and c0=1", None),
                             ("share b1 if b0", (1, 5)), ("share c0=1 if b0 and b1", (2, 5)),
                             ("share not b0 and not b1 and c0=0 and c1=0", (1, 5))]:
            self.tells(answer, asked, CALM, text)
            self.tells(answer, asked_calm, SEEN, text)

    def test_a_mean_of_four_worths(self):
        whole = weighed((4,), [(0,)], [1, 2, 3, 4])
        self.tells((2, 1), asked, whole, "mean c0 if yes")
        self.tells((18, 7), asked, whole, "mean c0 if not (c0=0 or c0=1)")
        self.tells((20, 9), asked, whole, "mean c0 if not c0=0")
        self.tells((0, 1), asked, whole, "share b0")
        self.tells(None, asked, whole, "mean c0 if b0")

    def test_not_binds_most_then_and_then_or(self):
        for text, same in [("not c0=1 and b0", "(not c0=1) and b0"), ("not c0=1 or b0", "(not c0=1) or b0"),
                           ("c0=1 or b0 and c1=1", "c0=1 or (b0 and c1=1)"),
                           ("c0=1 and b0 or c1=1", "(c0=1 and b0) or c1=1"),
                           ("not not c0=1 and not b0 or not b1", "(((not (not c0=1)) and (not b0)) or (not b1))")]:
            for text in (text, same):
                self.tells(counted(WHOLE, same, "yes"), asked, WHOLE, "share " + text)
        wholes = [asked(WHOLE, "share " + text) for text in ["not c0=1 and b0", "not (c0=1 and b0)",
                                                             "c0=1 or b0 and c1=1",
                                                             "(c0=1 or b0) and c1=1", "c0=1 and b0 or c1=1",
                                                             "c0=1 and (b0 or c1=1)",
                                                             "not c0=1 or b0", "not (c0=1 or b0)"]]
        self.assertEqual(len(set(wholes)), len(wholes))

    def test_blanks_and_parentheses(self):
        same = asked(WHOLE, "share c0=1 and ( b0 or c1=2 ) if not ( b1 )")
        for text in ["share c0=1 and (b0 or c1=2) if not (b1)", "share c0=1 and(b0 or c1=2)if not(b1)",
                     "  share  c0=1  and  (  b0  or  c1=2  )  if  not  (  b1  )  ",
                     "share(c0=1)and(b0 or c1=2)if(not(b1))",
                     "share ((((c0=1)))and(((b0)or(c1=2))))if not((b1))", " share c0=1 and(b0 or c1=2)if not b1",
                     "share c0=1 and (b0 or c1=2) if not b1 ", "share((c0=1)and(b0 or(c1=2)))if((not b1))"]:
            self.tells(same, asked, WHOLE, text)
        self.tells(asked(WHOLE, "mean c1 if b0"), asked, WHOLE, "  mean   c1   if(((b0)))  ")

    def test_drawn_expressions(self):
        dice = random.Random(1)
        for sizes, own in [((2,), lots_of(1)), ((2, 3), lots_of(2)), ((4, 2), [(), (0, 1)]), ((2, 2, 2), lots_of(3)),
                           ((2, 2, 2, 2), lots_of(4)), ((4, 4, 4), [(0, 1, 2), (1,)])]:
            whole = uneven(sizes, own, 3)
            conditions = conditions_for(sizes)
            for _ in range(40 if len(own) < 16 else 10):
                wanted = drawn_expression(dice, conditions, 12)
                told = drawn_expression(dice, conditions, 12)
                self.tells(counted(whole, wanted, told), asked, whole, spaced(dice, ["share"] + wanted + ["if"] + told))
                self.tells(counted(whole, wanted, ["yes"]), asked, whole, spaced(dice, ["share"] + wanted))
                column = dice.randrange(len(sizes))
                self.tells(mean_counted(whole, column, told), asked, whole,
                           spaced(dice, ["mean", f"c{column}", "if"] + told))

    def test_every_condition_of_every_column(self):
        for sizes in [(4,), (4, 4), (2, 3, 4), (2, 2, 4, 4)]:
            whole = uneven(sizes, sorted({tuple(range(len(sizes))), ()}), 1)
            for condition in conditions_for(sizes):
                self.tells(counted(whole, [condition], ["yes"]), asked, whole, "share " + condition)
            for column, size in enumerate(sizes):
                self.tells(mean_counted(whole, column, ["yes"]), asked, whole, f"mean c{column} if yes")
                for text in [f"c{column}={size}", f"c{column}=", f"c{column}=-1", f"c{column}=00", f"c0{column}=0"]:
                    self.raises(BadText, {"at": 6}, asked, whole, "share " + text)
            self.raises(BadText, {"at": 6}, asked, whole, f"share b{len(sizes)}")
            self.raises(BadText, {"at": 6}, asked, whole, f"share c{len(sizes)}=0")
            self.raises(BadText, {"at": 5}, asked, whole, f"mean c{len(sizes)} if yes")

    def test_long_and_deep(self):
        yes, no = asked(WHOLE, "share c0=1"), asked(WHOLE, "share not c0=1")
        for many in (1, 2, 3, 5000, 20001):
            self.tells([yes, no][many % 2], asked, WHOLE, "share " + "not " * many + "c0=1")
            self.tells(yes, asked, WHOLE, "share " + "(" * many + "c0=1" + ")" * many)
            self.tells([yes, no][many % 2], asked, WHOLE, "share " + "not(" * many + "c0=1" + ")" * many)
            self.tells(yes, asked, WHOLE, "share c0=1" + " and c0=1" * many)
            self.tells(yes, asked, WHOLE, "share c0=1" + " or no" * many)
            self.tells((1, 1), asked, WHOLE, "share no" + " or c0=1 or c0=0" * many + " if b0 " + "and yes " * many)
            self.tells(yes, asked, WHOLE, "share " + "(no or " * many + "c0=1" + ")" * many)
            self.tells(yes, asked, WHOLE, "share " + "(yes and not (no or " * many + "not c0=1" + "))" * many
                       if many % 2 else "share c0=1")
            self.tells((1, 1), asked, WHOLE,
                       " " * many + "share" + " " * many + "c0=1" + " " * many + "if c0=1" + " " * many)
            self.raises(BadText, {"at": 6 + many}, asked, WHOLE, "share " + "(" * many)
            self.raises(BadText, {"at": 6 + many + 4 + many}, asked, WHOLE,
                        "share " + "(" * many + "c0=1" + ")" * many + ")")
            self.raises(BadText, {"at": 6 + many + 4 + many - 1}, asked, WHOLE,
                        "share " + "(" * many + "c0=1" + ")" * (many - 1))
            self.raises(BadText, {"at": 6 + 4 * many}, asked, WHOLE, "share " + "not " * many)

    def test_sixty_figures(self):
        whole = weighed((2, 2), lots_of(2), [SIXTY // 17, SIXTY // 19, SIXTY // 23, 1])
        for wanted, told in [("c0=1", "b0"), ("b0 and c1=1", "not b1"), ("c0=0 or b1", "yes")]:
            self.tells(counted(whole, wanted, told), asked, whole, f"share {wanted} if {told}")
        self.tells(mean_counted(whole, 1, "b0"), asked, whole, "mean c1 if b0")

    def test_numbers_of_any_size(self):
        whole = WHOLE
        for place in range(60):
            whole = mixed(whole, uneven((2, 3), lots_of(2), place), (SIXTY - 2, SIXTY))
        told = asked(whole, "share c0=1 and c1=2 if b0 or b1")
        self.assertGreater(told[1].bit_length(), 10000)
        self.assertEqual(told, counted(whole, "c0=1 and c1=2", "b0 or b1"))
        self.assertEqual(asked(whole, "mean c1 if b0"), mean_counted(whole, 1, "b0"))


class OfSeenTables(Checks):
    def test_of_the_calm_whole_and_the_tilted_one(self):
        dice = random.Random(2)
        for sizes in [(2,), (2, 3), (2, 2, 2)]:
            for place, own in enumerate(closed_families(len(sizes))):
                seen = seen_weighed(sizes, own, [3, 1, 4, 1, 5, 9, 2, 6])
                tilts = drawn_tilts(sizes, place + 1)
                words = [drawn_expression(dice, conditions_for(sizes), 8) for _ in range(2)]
                text = spaced(dice, ["share"] + words[0] + ["if"] + words[1])
                self.tells(counted(calm_whole(seen), *words), asked_calm, seen, text)
                self.tells(counted(tilted_whole(seen, tilts), *words), asked_tilted, seen, tilts, text)
                self.tells(mean_counted(calm_whole(seen), 0, words[0]), asked_calm, seen,
                           "mean c0 if " + " ".join(words[0]))
                self.tells(mean_counted(tilted_whole(seen, tilts), 0, words[0]), asked_tilted, seen, tilts,
                           "mean c0 if " + " ".join(words[0]))

    def test_tilted_by_hand(self):
        # 0 and 1 seen 2 to 1; of the blank quarter, by the tilt 3, 2 to 3.
        seen = seen_of_rows((2,), [(0,), (0,), (1,), (-1,)])
        tilts = (((1, 1), (3, 1)),)
        self.tells((3, 5), asked_tilted, seen, tilts, "share c0=1 if b0")
        self.tells((2, 5), asked_tilted, seen, tilts, "share c0=1")
        self.tells((1, 3), asked_calm, seen, "share c0=1 if b0")
        self.tells((1, 4), asked_tilted, seen, tilts, "share b0")

    def test_errors_and_their_order(self):
        lacks = seen_of_rows((2, 2), [(-1, 0)])
        torn = hidden(uneven((2, 2), [(), (0, 1)], 1))
        for text in ["", "share yes", "share", None, 0, ["share yes"]]:
            self.raises(NotFull, {"view": (-1, 1)}, asked_calm, lacks, text)
            self.raises(NotClosed, {"pattern": (0,)}, asked_calm, torn, text)
            for tilts in (TILTS, None, ()):
                self.raises(NotFull, {"view": (-1, 1)}, asked_tilted, lacks, tilts, text)
                self.raises(NotClosed, {"pattern": (0,)}, asked_tilted, torn, tilts, text)
            self.raises(BadTilts, {"column": -1}, asked_tilted, SEEN, None, text)
            self.raises(BadTilts, {"column": 1}, asked_tilted, SEEN, (TILTS[0], None), text)
        for thing in odd_things():
            self.raises(BadTilts, {"column": 0}, asked_tilted, SEEN, (thing, TILTS[1]), thing)
        for text, at in [("", 0), ("share", 5), ("yes", 0), ("share c0=2", 6), (None, -1), (b"share yes", -1)]:
            self.raises(BadText, {"at": at}, asked_calm, SEEN, text)
            self.raises(BadText, {"at": at}, asked_tilted, SEEN, TILTS, text)


class Wrong(Checks):
    def test_by_hand(self):
        for text, at in [("", 0), (" ", 1), ("     ", 5), ("share", 5), ("share ", 6), ("share   ", 8),
                         ("shares yes", 0), ("Share yes", 0),
                         ("yes", 0), ("(share yes)", 0), ("share yes yes", 10), ("share (yes", 10), ("share yes)", 9),
                         ("share ()", 7),
                         ("share )", 6), ("share (yes) yes", 12), ("share yes (yes)", 10), ("share(yes)(yes)", 10),
                         ("share not", 9),
                         ("share yes and", 13), ("share yes and  ", 15), ("share and yes", 6),
                         ("share yes or or no", 13),
                         ("share yes not", 10), ("share yes and not", 17), ("share not and", 10), ("share yes if", 12),
                         ("share yes if ", 13), ("share if yes", 6), ("share yes if yes if yes", 17),
                         ("share (yes if yes)", 11),
                         ("share yes if (yes", 17), ("share yes if yes)", 16), ("share yes if if", 13), ("mean", 4),
                         ("mean c0", 7),
                         ("mean c0 if", 10), ("mean c0=1 if yes", 5), ("mean b0 if yes", 5), ("mean c2 if yes", 5),
                         ("mean c00 if yes", 5),
                         ("mean (c0) if yes", 5), ("mean c0 yes", 8), ("mean c0 and yes", 8),
                         ("mean c0 if yes if yes", 15),
                         ("mean c0 c1 if yes", 8), ("mean yes", 5), ("mean c if yes", 5), ("share c0", 6),
                         ("share c0 = 1", 6), ("share c0= 1", 6),
                         ("share c0=1=1", 6), ("share c0=3", 6), ("share c1=3", 6), ("share c2=0", 6),
                         ("share c00=1", 6), ("share c0=01", 6),
                         ("share c-1=0", 6), ("share c0=-1", 6), ("share c0=-", 6), ("share b2", 6), ("share b", 6),
                         ("share b00", 6), ("share b0=1", 6),
                         ("share C0=1", 6), ("share B0", 6), ("share YES", 6), ("share yes AND no", 10),
                         ("share yes & no", 10), ("share [yes]", 6),
                         ("share yes,", 6), ("share yes.", 6), ("share\nyes", 0), ("share yes\n", 6),
                         ("\nshare yes", 0), ("share yes\n ", 6),
                         ("share yes \n", 10), ("share not-b0", 6), ("sharec0=1", 0), ("share notb0", 6),
                         ("share yes ifyes", 10),
                         ("share c0=1and b0", 6), ("share (c0=1 and (b0 or b1)", 26),
                         ("share (c0=1 and (b0 or b1)))", 27),
                         ("share share", 6), ("share mean", 6), ("mean mean", 5), ("share c" + "9" * 60 + "=0", 6),
                         ("share c0=" + "9" * 60, 6)]:
            self.raises(BadText, {"at": at}, asked, uneven((2, 3), lots_of(2), 1), text)

    def test_worths_and_columns_of_the_table(self):
        self.tells((2, 3), asked, bare_whole(), "share c0=1")
        self.raises(BadText, {"at": 6}, asked, bare_whole(), "share c1=1")
        self.raises(BadText, {"at": 6}, asked, bare_whole(), "share b1")
        self.raises(BadText, {"at": 6}, asked, bare_whole(), "share c0=2")
        self.raises(BadText, {"at": 5}, asked, bare_whole(), "mean c1 if yes")

    def test_all_rows_of_words(self):
        # Each row of words that can go on, with each word behind it: what can't stand there is told, or what lacks.
        whole = uneven((2, 2), lots_of(2), 1)
        waiting = [()]
        for _ in range(6):
            longer = [words + (word,) for words in waiting for word in WORDS]
            waiting = []
            for words in longer:
                text = " ".join(words)
                if is_question(words):
                    answer = asked(whole, text)
                    self.assertTrue(answer is None or isinstance(answer, tuple))
                    waiting.append(words)
                elif can_go_on(words):
                    self.raises(BadText, {"at": len(text)}, asked, whole, text)
                    waiting.append(words)
                else:
                    self.raises(BadText, {"at": len(text) - len(words[-1])}, asked, whole, text)
            waiting = waiting[::1 if len(waiting) < 600 else len(waiting) // 600]

    def test_one_word_of_a_question_that_is_drawn_is_another_one(self):
        dice = random.Random(3)
        whole = uneven((2, 2), lots_of(2), 1)
        conditions = [condition for condition in CONDITIONS if condition != "c1=2"]
        for _ in range(300):
            words = ["share"] + drawn_expression(dice, conditions, 8) + ["if"] + drawn_expression(dice, conditions, 8)
            place = dice.randrange(len(words))
            words[place] = dice.choice(WORDS)
            text = spaced(dice, words)
            starts = [found.start() for found in re.finditer("[()]|[^ ()]+", text)]
            if is_question(tuple(words)):
                self.assertNotIsInstance(asked(whole, text), str)
                continue
            wrong = [at for at in range(len(words)) if not can_go_on(tuple(words[:at + 1]))]
            self.raises(BadText, {"at": starts[wrong[0]] if wrong else len(text)}, asked, whole, text)

    def test_what_is_no_string(self):
        for thing in odd_numbers():
            if not isinstance(thing, str):
                self.raises(BadText, {"at": -1}, asked, WHOLE, thing)
                self.raises(BadText, {"at": -1}, asked_calm, SEEN, thing)
                self.raises(BadText, {"at": -1}, asked_tilted, SEEN, TILTS, thing)
            else:
                self.raises(BadText, {"at": 0}, asked, WHOLE, thing)

    def test_all_signs(self):
        for code in [10] + list(range(32, 127)):
            sign = chr(code)
            if sign in " ":
                self.tells((1, 1), asked, WHOLE, sign + "share yes" + sign)
                continue
            self.raises(BadText, {"at": 0}, asked, WHOLE, sign + "share yes")
            self.raises(BadText, {"at": 0}, asked, WHOLE, sign + " share yes")
            self.raises(BadText, {"at": 9 if sign in "()" else 6}, asked, WHOLE, "share yes" + sign)
            self.raises(BadText, {"at": 10}, asked, WHOLE, "share yes " + sign)

    def test_pairs_of_words_that_stand_together(self):
        for one, other in itertools.product(["share", "yes", "not", "and", "if"], repeat=2):
            self.raises(BadText, {"at": 0}, asked, WHOLE, one + other + " yes")


if __name__ == "__main__":
    unittest.main()
