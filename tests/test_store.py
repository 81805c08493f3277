"""A store of rows, and the quotients that it keeps (10)."""

import itertools
import random
import unittest
from fractions import Fraction

from calmblanks.calm import calm_whole, quotient, quotients
from calmblanks.errors import BadSizes, BadText, NoRow, NoRows, NotClosed, NotFull, NothingDone, NoView
from calmblanks.questions import asked
from calmblanks.store import Rows
from calmblanks.tables import Seen, Whole, hidden, seen_of_rows
from calmblanks.webs import Web
from tests.helper import (ROWS, SIXTY, Checks, all_families, altered, as_pair, bare_whole, closed_families, deep,
                          frozen,
                          halves, lots_of, odd_numbers, odd_things, shown, sizes_of_all)
from tests.test_calm_whole import pattern_of, quotients_by_the_book, shown_by
from tests.test_contents import WRONG_SIZES

SEEN = seen_of_rows((2, 2), ROWS)
WRONG_VIEWS = [(), (0,), (0, 0, 0), (2, 0), (0, 3), (-2, 0), (True, 0), (0, False), [0, 0], [0, -1], "00", "0-", 0,
               None, (0, None),
               ((0,), 0), (SIXTY, 0), (0, -SIXTY), {0: 0, 1: 0}, b"\x00\x00", ((0, 0),), (0, "0"), (0, [0])]
WRONG_NUMBERS = [-1, 1, 2, SIXTY, -SIXTY, True, False, "0", (0,), [0], None, {0: 0}, b"\x00", (), 10 ** 9]


def views_of(sizes, own):
    """All views by the patterns of a family."""
    return sorted({shown(content, pattern) for content in itertools.product(*[range(size) for size in sizes])
                   for pattern in own})


def store_of(sizes, rows):
    store = Rows(sizes)
    for view in rows:
        store.add(view)
    return store


def is_part(part, view):
    """Whether a view shows no more columns than another one, with the same worths."""
    return all(worth in (-1, own) for worth, own in zip(part, view))


def what_lacks(sizes, rows):
    """The error that tells why a table of rows is not told, with its field; None if it is."""
    if not rows:
        return (NoRows, {})
    own = sorted({pattern_of(view) for view in rows})
    lack = [view for view in views_of(sizes, own) if view not in rows]
    if lack:
        return (NotFull, {"view": min(lack)})
    open_at = [pattern for pattern in lots_of(len(sizes)) if pattern not in own and any(set(less) < set(pattern) for less in own)]
    return (NotClosed, {"pattern": min(open_at)}) if open_at else None


class Account:
    """The test's own account of a store: all rows at each time, and what is kept."""

    def __init__(self, sizes):
        self.sizes = sizes
        self.rows = {}
        self.upcoming = 0
        self.past = []
        self.kept = set()
        self.worked = 0

    def do(self, rows, upcoming, touched):
        self.past.append((self.rows, self.upcoming, touched))
        self.rows, self.upcoming = rows, upcoming
        self.forget(touched)

    def forget(self, touched):
        self.kept = {view for view in self.kept if not any(is_part(view, row) for row in touched)}

    def add(self, view):
        self.do({**self.rows, self.upcoming: view}, self.upcoming + 1, [view])

    def mend(self, number, view):
        self.do({**self.rows, number: view}, self.upcoming, [self.rows[number], view])

    def strike(self, number):
        left = {own: view for own, view in self.rows.items() if own != number}
        self.do(left, self.upcoming, [self.rows[number]])

    def undo(self):
        self.rows, self.upcoming, touched = self.past.pop()
        self.forget(touched)

    def want(self, views):
        """Keep the quotients of views with a blank, and those that they are made of."""
        for view in views:
            contents = [content for content in itertools.product(*[range(size) for size in self.sizes]) if shown_by(view, content)]
            own = {pattern_of(row) for row in self.rows.values()}
            wanted = {shown(content,
                            pattern) for content in contents for pattern in own if set(pattern_of(view)) <= set(pattern)}
            for other in wanted:
                if -1 in other and other not in self.kept:
                    self.kept.add(other)
                    self.worked += 1

    def copy(self):
        other = Account(self.sizes)
        other.rows, other.upcoming, other.past = self.rows, self.upcoming, list(self.past)
        other.kept, other.worked = set(self.kept), self.worked
        return other


class Led(Checks):
    def check(self, store, account):
        """The store is as the account has it, but for what asking would work out."""
        self.tells({number: account.rows[number] for number in sorted(account.rows)},
                   lambda: dict(sorted(store.rows().items())))
        views = list(account.rows.values())
        self.tells({view: views.count(view) for view in sorted(set(views))},
                   lambda: dict(sorted(store.counts().items())))
        self.tells(account.worked, store.worked)
        if views:
            self.tells(seen_of_rows(account.sizes, views), store.seen)
        else:
            self.raises(NoRows, {}, store.seen)

    def ask(self, dice, store, account):
        """One question of the four kinds, answered another way; and how many quotients were worked out for it."""
        sizes = account.sizes
        views = list(account.rows.values())
        wrong = what_lacks(sizes, views)
        kind = dice.randrange(4)
        view = tuple(dice.randrange(-1, size) for size in sizes)
        call = [store.quotient, store.whole, store.ask, store.ask][kind]
        arguments = [(view,), (), ("share c0=1 if b0 or c0=0",), ("share c0=1 or",)][kind]
        if wrong is not None:
            self.raises(*wrong, call, *arguments)
        elif kind == 0 and pattern_of(view) not in {pattern_of(row) for row in views}:
            self.raises(NoView, {}, store.quotient, view)
        elif kind == 0:
            account.want([view])
            answer = (views.count(view), 1) if -1 not in view else as_pair(quotients_by_the_book(seen_of_rows(sizes,
                                                                                                              views))[view])
            self.tells(answer, store.quotient, view)
        elif kind == 3:
            self.raises(BadText, {"at": len(arguments[0])}, store.ask, *arguments)
        else:
            account.want(set(views))
            whole = calm_whole(seen_of_rows(sizes, views))
            self.tells(whole if kind == 1 else asked(whole, arguments[0]), call, *arguments)
        self.assertEqual(store.worked(), account.worked)

    def lead(self, dice, store, account, views):
        """One deed that is drawn, done to both."""
        kind = dice.randrange(8)
        number = dice.choice(sorted(account.rows)) if account.rows else None
        if kind < 3 or (kind < 6 and number is None):
            view = dice.choice(views)
            self.assertEqual(store.add(view), account.upcoming)
            account.add(view)
        elif kind == 3:
            view = dice.choice(views + [account.rows[number]])
            self.assertIsNone(store.mend(number, view))
            account.mend(number, view)
        elif kind < 6:
            self.assertIsNone(store.strike(number))
            account.strike(number)
        elif account.past:
            self.assertIsNone(store.undo())
            account.undo()
        else:
            self.raises(NothingDone, {}, store.undo)

    def test_drawn_deeds_of_a_few_views(self):
        dice = random.Random(1)
        for sizes in [(2,), (3,), (2, 2), (2, 3)]:
            store, account = Rows(sizes), Account(sizes)
            views = views_of(sizes, lots_of(len(sizes)))
            for _ in range(250):
                self.lead(dice, store, account, views)
                self.check(store, account)
                self.ask(dice, store, account)

    def test_drawn_deeds_where_all_views_of_a_family_stand(self):
        dice = random.Random(2)
        for sizes, families in [((2,), closed_families(1)), ((4,), closed_families(1)), ((2, 3), closed_families(2)),
                                ((2, 2, 2), closed_families(3)[::3]), ((2, 2, 2, 2), [lots_of(4)])]:
            for own in families:
                views = views_of(sizes, own)
                store, account = store_of(sizes, views), Account(sizes)
                for view in views:
                    account.add(view)
                for _ in range(60 if len(views) < 50 else 25):
                    self.lead(dice, store, account, views)
                    self.check(store, account)
                    for _ in range(2):
                        self.ask(dice, store, account)

    def test_all_is_taken_back_and_comes_again(self):
        dice = random.Random(3)
        for sizes in [(2,), (2, 2)]:
            store, account = Rows(sizes), Account(sizes)
            views = views_of(sizes, lots_of(len(sizes)))
            for _ in range(5):
                for _ in range(60):
                    self.lead(dice, store, account, views)
                    self.ask(dice, store, account)
                while account.past:
                    store.undo()
                    account.undo()
                    self.check(store, account)
                    self.ask(dice, store, account)
                self.raises(NothingDone, {}, store.undo)
                self.assertEqual(store.rows(), {})
                self.assertEqual(account.upcoming, 0)

    def test_copies_led_apart(self):
        dice = random.Random(4)
        for sizes in [(2,), (2, 2)]:
            views = views_of(sizes, lots_of(len(sizes)))
            pairs = [(store_of(sizes, views), Account(sizes))]
            for view in views:
                pairs[0][1].add(view)
            for step in range(120):
                store, account = dice.choice(pairs)
                if step % 12 == 0:
                    other = store.copy()
                    self.assertIs(other.__class__, Rows)
                    pairs.append((other, account.copy()))
                self.lead(dice, store, account, views)
                self.ask(dice, store, account)
                for own in pairs:
                    self.check(*own)


class ByHand(Checks):
    def test_the_rows_of_the_examples(self):
        store = store_of((2, 2), ROWS)
        self.tells(SEEN, store.seen)
        self.tells(calm_whole(SEEN), store.whole)
        self.tells((2, 5), store.ask, "share c0=1 if b0")
        self.tells({(-1, -1): 1, (-1, 0): 2, (-1, 1): 2, (0, -1): 3, (0, 0): 4, (0, 1): 2, (1, -1): 2, (1, 0): 1,
                    (1, 1): 3}, store.counts)
        for view, answer in [((0, 0), (4, 1)), ((1, 0), (1, 1)), ((0, -1), (1, 2)), ((-1, 1), (2, 5)),
                             ((-1, -1), (1, 2))]:
            self.tells(answer, store.quotient, view)
        self.tells(dict(enumerate(ROWS)), store.rows)

    def test_numbers(self):
        store = Rows((2,))
        self.assertEqual([store.add((0,)) for _ in range(3)], [0, 1, 2])
        store.strike(1)
        self.tells({0: (0,), 2: (0,)}, store.rows)
        self.assertEqual(store.add((1,)), 3)
        store.strike(3)
        store.strike(0)
        self.assertEqual(store.add((1,)), 4)
        self.tells({2: (0,), 4: (1,)}, store.rows)
        self.tells({(0,): 1, (1,): 1}, store.counts)
        store.mend(4, (-1,))
        self.tells({2: (0,), 4: (-1,)}, store.rows)
        self.assertEqual(store.add((-1,)), 5)

    def test_numbers_come_again_behind_undo(self):
        store = Rows((2,))
        self.assertEqual(store.add((0,)), 0)
        self.assertEqual(store.add((1,)), 1)
        store.undo()
        self.tells({0: (0,)}, store.rows)
        self.assertEqual(store.add((-1,)), 1)
        store.strike(0)
        store.undo()
        self.tells({0: (0,), 1: (-1,)}, store.rows)
        self.assertEqual(store.add((1,)), 2)
        store.mend(0, (1,))
        store.strike(1)
        for rows in [{0: (1,), 1: (-1,), 2: (1,)}, {0: (0,), 1: (-1,), 2: (1,)}, {0: (0,), 1: (-1,)}, {0: (0,)}, {}]:
            self.assertIsNone(store.undo())
            self.tells(rows, store.rows)
        self.raises(NothingDone, {}, store.undo)
        self.assertEqual(store.add((1,)), 0)

    def test_what_undo_takes_back_is_not_done_again(self):
        store = store_of((2,), [(0,), (1,)])
        store.undo()
        store.undo()
        self.raises(NothingDone, {}, store.undo)
        self.tells({}, store.rows)
        self.tells({}, store.counts)

    def test_an_empty_store(self):
        for sizes in sizes_of_all()[::9]:
            store = Rows(sizes)
            self.tells({}, store.rows)
            self.tells({}, store.counts)
            self.tells(0, store.worked)
            self.raises(NothingDone, {}, store.undo)
            for call, arguments in [(store.seen, ()), (store.whole, ()), (store.ask, ("share yes",)),
                                    (store.ask, (None,)),
                                    (store.quotient, ((-1,) * len(sizes),))]:
                self.raises(NoRows, {}, call, *arguments)
            self.raises(NoRow, {}, store.strike, 0)
            self.raises(NoRow, {}, store.mend, 0, (0,) * len(sizes))

    def test_four_columns_and_sizes_with_the_product_64(self):
        for sizes in [(2, 2, 2, 2), (4, 4, 4), (2, 2, 4, 4)]:
            views = views_of(sizes, lots_of(len(sizes)))
            rows = views + views[::3] + views[::5]
            store = store_of(sizes, rows)
            self.assertEqual(store.seen(), seen_of_rows(sizes, rows))
            with_blank = [view for view in views if -1 in view]
            self.assertEqual(store.quotient((-1,) * len(sizes)), quotient(store.seen(), (-1,) * len(sizes)))
            self.assertEqual(store.worked(), len(with_blank))
            self.assertEqual(store.whole(), calm_whole(seen_of_rows(sizes, rows)))
            self.assertEqual(store.worked(), len(with_blank))
            for view, answer in quotients(store.seen()):
                self.assertEqual(store.quotient(view), answer if -1 in view else (rows.count(view), 1))


class Kept(Checks):
    def works(self, many, store, call, *arguments):
        before = store.worked()
        call(*arguments)
        self.assertEqual(store.worked() - before, many)

    def test_one_column(self):
        store = store_of((2,), [(0,), (0,), (1,), (-1,)])
        self.tells(0, store.worked)
        self.works(0, store, store.quotient, (0,))
        self.works(0, store, store.seen)
        self.works(1, store, store.quotient, (-1,))
        self.works(0, store, store.quotient, (-1,))
        self.works(0, store, store.whole)
        self.works(0, store, store.ask, "share c0=1")
        for view in [(0,), (1,), (-1,)]:
            # All blank is a part of each view.
            store.add(view)
            self.tells(store.worked(), store.worked)
            self.works(1, store, store.whole)
            self.works(0, store, store.quotient, (-1,))

    def test_two_columns(self):
        store = store_of((2, 2), ROWS)
        self.works(1, store, store.quotient, (0, -1))
        self.works(1, store, store.quotient, (-1, 1))
        # All four views with one blank, of which two are kept, and itself.
        self.works(3, store, store.quotient, (-1, -1))
        self.works(0, store, store.whole)
        store.add((0, 0))
        self.works(0, store, store.quotient, (1, -1))
        self.works(0, store, store.quotient, (-1, 1))
        self.works(3, store, store.whole)
        store.add((0, -1))
        self.works(0, store, store.quotient, (-1, 0))
        self.works(2, store, store.quotient, (-1, -1))
        store.add((-1, -1))
        self.works(0, store, store.quotient, (0, -1))
        self.works(1, store, store.ask, "share b0")
        store.mend(0, (1, 1))
        # Of 00 and 11 all with a blank are parts.
        self.works(5, store, store.whole)
        store.mend(0, (1, -1))
        self.works(1, store, store.quotient, (-1, 1))
        self.works(0, store, store.quotient, (0, -1))
        self.works(2, store, store.whole)

    def test_a_row_that_goes_and_comes_again(self):
        store = store_of((2, 2), ROWS)
        store.whole()
        for deed in [lambda: store.strike(0), store.undo, lambda: store.add((0, 0)), store.undo]:
            deed()
            self.works(0, store, store.quotient, (1, -1))
            self.works(0, store, store.quotient, (-1, 1))
            self.works(1, store, store.quotient, (0, -1))
            self.works(2, store, store.whole)

    def test_a_row_mended_to_itself(self):
        store = store_of((2, 2), ROWS)
        store.whole()
        store.mend(ROWS.index((0, -1)), (0, -1))
        self.works(0, store, store.quotient, (1, -1))
        self.works(2, store, store.whole)
        self.tells(dict(enumerate(ROWS)), store.rows)
        store.undo()
        self.works(2, store, store.whole)
        self.tells(dict(enumerate(ROWS)), store.rows)

    def test_what_is_kept_while_a_view_lacks(self):
        store = store_of((2, 2), ROWS)
        store.whole()
        store.strike(6)
        self.raises(NotFull, {"view": (1, 0)}, store.quotient, (0, -1))
        self.raises(NotFull, {"view": (1, 0)}, store.whole)
        self.tells(5, store.worked)
        store.add((1, 0))
        self.works(0, store, store.quotient, (0, -1))
        self.works(0, store, store.quotient, (-1, 1))
        self.works(3, store, store.whole)

    def test_errors_work_nothing_out(self):
        store = store_of((2, 2), ROWS)
        for text in [None, "", "share", "share yes)", "mean c2 if yes"]:
            self.assertRaises(BadText, store.ask, text)
        self.raises(NoView, {}, store.quotient, (2, 2))
        self.tells(0, store.worked)
        store = store_of((2, 2), [(0, 0), (0, 1), (1, 0), (1, 1), (0, -1), (1, -1)])
        self.raises(NoView, {}, store.quotient, (-1, 0))
        self.raises(NoView, {}, store.quotient, (-1, -1))
        self.tells(0, store.worked)
        self.works(2, store, store.whole)

    def test_of_views_without_a_blank_nothing_is_worked_out(self):
        store = store_of((3,), [(0,), (1,), (2,), (2,)])
        self.works(0, store, store.whole)
        self.works(0, store, store.ask, "mean c0 if yes")
        self.tells((2, 1), store.quotient, (2,))
        self.raises(NoView, {}, store.quotient, (-1,))
        self.tells(0, store.worked)

    def test_the_family_grows_and_shrinks(self):
        rows = [(0, 0), (0, 1), (1, 0), (1, 1), (0, -1), (1, -1)]
        store = store_of((2, 2), rows)
        self.works(2, store, store.whole)
        store.add((-1, 0))
        self.raises(NotFull, {"view": (-1, 1)}, store.whole)
        store.add((-1, 1))
        # Of 0- and 1- no row has come of which they are parts.
        self.works(2, store, store.whole)
        store.add((-1, -1))
        self.works(1, store, store.whole)
        for _ in range(3):
            store.undo()
        self.works(0, store, store.whole)
        self.assertEqual(store.whole(), calm_whole(seen_of_rows((2, 2), rows)))

    def test_a_copy_has_what_is_kept_and_can_be_undone(self):
        store = store_of((2, 2), ROWS)
        store.quotient((0, -1))
        other = store.copy()
        self.works(0, other, other.quotient, (0, -1))
        self.works(4, other, other.whole)
        self.works(4, store, store.whole)
        other.add((0, 0))
        self.assertEqual(other.rows(), dict(enumerate(ROWS + [(0, 0)])))
        self.tells(dict(enumerate(ROWS)), store.rows)
        self.works(0, store, store.whole)
        self.works(3, other, other.whole)
        for _ in range(21):
            other.undo()
        self.raises(NothingDone, {}, other.undo)
        self.tells({}, other.rows)
        self.tells(dict(enumerate(ROWS)), store.rows)
        store.undo()
        self.assertEqual(store.add((0, 0)), 19)
        self.assertEqual(other.add((0, 0)), 0)


class Wrong(Checks):
    def test_bad_sizes(self):
        for sizes in WRONG_SIZES + odd_things():
            self.raises(BadSizes, {}, Rows, sizes)
        for sizes in sizes_of_all():
            self.assertIsInstance(Rows(sizes), Rows)

    def unchanged(self, error, fields, store, call, *arguments):
        before = (store.rows(), store.counts(), store.worked())
        self.raises(error, fields, call, *arguments)
        self.assertEqual((store.rows(), store.counts(), store.worked()), before)

    def test_no_view(self):
        store = store_of((2, 3), [(0, 0), (1, -1)])
        for view in WRONG_VIEWS + odd_things():
            self.unchanged(NoView, {}, store, store.add, view)
            self.unchanged(NoView, {}, store, store.mend, 1, view)
            self.unchanged(NoView, {}, store, store.quotient, view)
            self.unchanged(NoView, {}, Rows((2, 3)), Rows((2, 3)).quotient, view)
        for _, view in altered((0, -1)):
            self.unchanged(NoView, {}, store, store.add, view)
        for make in (lambda thing: (thing,), lambda thing: [thing], lambda thing: {0: thing}):
            self.unchanged(NoView, {}, store, store.add, (0, deep(make, 39)))
        store.undo()
        self.tells({0: (0, 0)}, store.rows)
        self.assertEqual(store.add((1, 2)), 1)

    def test_no_row(self):
        store = Rows((2, 3))
        self.assertEqual(store.add((0, 0)), 0)
        for number in WRONG_NUMBERS + odd_numbers():
            self.unchanged(NoRow, {}, store, store.strike, number)
            for view in [(0, 0), None, ()]:
                self.unchanged(NoRow, {}, store, store.mend, number, view)
        store.add((0, 1))
        store.strike(0)
        for number in (0, False):
            self.unchanged(NoRow, {}, store, store.strike, number)
            self.unchanged(NoRow, {}, store, store.mend, number, (1, 1))
        self.unchanged(NoRow, {}, store, store.strike, True)
        self.unchanged(NoRow, {}, store, store.mend, 2, (1, 1))
        store.undo()
        self.tells({0: (0, 0), 1: (0, 1)}, store.rows)

    def test_errors_are_nothing_to_take_back(self):
        store = Rows((2,))
        self.raises(NoView, {}, store.add, (2,))
        self.raises(NothingDone, {}, store.undo)
        store.add((0,))
        self.raises(NoView, {}, store.mend, 0, (2,))
        self.raises(NoRow, {}, store.strike, 1)
        store.undo()
        self.raises(NothingDone, {}, store.undo)

    def test_tables_that_are_not_told(self):
        for sizes, rows in [((2,), [(0,)]), ((2,), [(-1,)]), ((2, 2), [(-1, 0), (-1, 1)]), ((2, 2), [(0, -1), (0, 1)]),
                            ((2, 2), [(-1, 0)]), ((2, 2, 2), views_of((2, 2, 2), [(0, 1), (2,)]))]:
            store = store_of(sizes, rows)
            wrong = what_lacks(sizes, rows)
            self.unchanged(*wrong, store, store.whole)
            for text in ["share yes", "share", None, 5]:
                self.unchanged(*wrong, store, store.ask, text)
            for view in itertools.product(*[range(-1, size) for size in sizes]):
                self.unchanged(*wrong, store, store.quotient, view)
            self.unchanged(NoView, {}, store, store.quotient, (9,))
        for own in all_families(2):
            rows = views_of((2, 3), own)
            store = store_of((2, 3), rows)
            if what_lacks((2, 3), rows) is None:
                self.assertEqual(store.whole(), calm_whole(seen_of_rows((2, 3), rows)))
            else:
                self.unchanged(*what_lacks((2, 3), rows), store, store.whole)

    def test_bad_text(self):
        store = store_of((2, 2), ROWS)
        for text, at in [("", 0), ("share", 5), ("share c2=0", 6), ("mean c0", 7), ("share yes)", 9)]:
            self.unchanged(BadText, {"at": at}, store, store.ask, text)
        for thing in odd_things():
            self.unchanged(BadText, {"at": 0 if isinstance(thing, str) else -1}, store, store.ask, thing)


class General(Checks):
    def test_what_is_told_is_new(self):
        store = store_of((2, 2), ROWS)
        for call in (store.rows, store.counts):
            told = call()
            told.clear()
            told["more"] = 1
            self.assertNotEqual(call(), told)
        self.tells(dict(enumerate(ROWS)), store.rows)
        seen = store.seen()
        whole = store.whole()
        before = frozen([seen, whole])
        store.add((0, 0))
        store.whole()
        self.assertEqual(frozen([seen, whole]), before)

    def test_kinds(self):
        store = store_of((2, 2), ROWS)
        for answer, kind in [(store.add((0, 0)), int), (store.worked(), int), (store.mend(0, (0, 0)), None),
                             (store.strike(0), None),
                             (store.undo(), None), (store.rows(), dict), (store.counts(), dict), (store.seen(), Seen),
                             (store.whole(), Whole), (store.ask("share yes"), tuple),
                             (store.ask("share yes if no"), None),
                             (store.quotient((0, -1)), tuple), (store.copy(), Rows)]:
            self.assertIs(answer.__class__, kind or None.__class__)

    def test_equal_to_nothing_of_another_kind(self):
        store = Rows((2,))
        for thing in odd_things() + [(2,), Web(1, ()), halves(), bare_whole(), {}, 0]:
            self.assertFalse(store == thing)
            self.assertTrue(store != thing)
        self.assertTrue(store == store)

    def test_equal_deeds_give_equal_answers(self):
        one, other = store_of((2, 2), ROWS), store_of((2, 2), ROWS)
        for call in ("rows", "counts", "seen", "whole", "worked"):
            self.assertEqual(frozen(getattr(one, call)()), frozen(getattr(other, call)()))

    def test_the_whole_is_hidden_as_the_rows_are(self):
        dice = random.Random(5)
        for sizes in [(3,), (2, 3), (2, 2, 2)]:
            views = views_of(sizes, lots_of(len(sizes)))
            store = store_of(sizes, views + [dice.choice(views) for _ in range(50)])
            self.assertEqual(hidden(store.whole()), store.seen())

    def test_quotients_as_of_the_seen_table(self):
        store = store_of((2, 2), ROWS)
        told = dict(quotients(SEEN))
        for view in told:
            answer = told[view] if -1 in view else as_pair(Fraction(*told[view]) * len(ROWS))
            self.tells(answer, store.quotient, view)

    def test_many_deeds(self):
        store = Rows((2,))
        for many in range(3000):
            self.assertEqual(store.add((many % 2,)), many)
        store.add((-1,))
        self.tells((1, 3000), store.quotient, (-1,))
        for _ in range(3001):
            store.undo()
        self.raises(NothingDone, {}, store.undo)


if __name__ == "__main__":
    unittest.main()
