"""A store of rows that come, are mended and are struck."""

from calmblanks.basics import BLANK, is_integer, is_sizes, is_view, lowest, times
from calmblanks.calm import even_tilts, judge_told, many_blanks, whole_of, worked_quotient
from calmblanks.errors import BadSizes, NoRow, NoRows, NothingDone, NoView
from calmblanks.questions import asked, judge_text
from calmblanks.tables import Seen, columns_seen, family


def is_part_of_view(part, view):
    """Whether a view shows no other columns than another one, with the same worths."""
    return all([worth in (BLANK, own) for worth, own in zip(part, view)])


class Rows:
    """Rows by their numbers, what was done to them, and the quotients that hold yet."""

    def __init__(self, sizes):
        if not is_sizes(sizes):
            raise BadSizes()
        self.sizes = sizes
        self.upcoming = 0
        self.standing = {}
        self.many = {}
        # Triples of a number and of the row's view ahead and behind, None where no such row stands.
        self.done = []
        # Of views with all columns seen the count, as long as there are any; of others the quotient, if it is kept.
        self.found = {}
        self.times_worked = 0

    def add(self, view):
        self.judge_view(view)
        number = self.upcoming
        self.upcoming = number + 1
        self.do(number, None, view)
        return number

    def mend(self, number, view):
        self.judge_number(number)
        self.judge_view(view)
        self.do(number, self.standing[number], view)

    def strike(self, number):
        self.judge_number(number)
        self.do(number, self.standing[number], None)

    def undo(self):
        if len(self.done) == 0:
            raise NothingDone()
        number, ahead, behind = self.done.pop()
        self.change(number, behind, ahead)
        if ahead is None:
            self.upcoming = number

    def rows(self):
        return {number: self.standing[number] for number in sorted(self.standing)}

    def counts(self):
        return {view: self.many[view] for view in sorted(self.many)}

    def seen(self):
        if len(self.standing) == 0:
            raise NoRows()
        shares = [(view, lowest(self.many[view], len(self.standing))) for view in sorted(self.many)]
        return Seen(self.sizes, tuple(shares))

    def whole(self):
        own = self.told_family()
        self.work_out(list(self.many))
        part = lowest(1, len(self.standing))
        found = {view: self.found[view] if BLANK in view else times(self.found[view], part) for view in self.many}
        return whole_of(self.sizes, own, even_tilts(self.sizes), found)

    def ask(self, text):
        self.told_family()
        # Nothing is worked out for a text that can't stand.
        judge_text(self.sizes, text)
        return asked(self.whole(), text)

    def quotient(self, view):
        self.judge_view(view)
        if columns_seen(view) not in self.told_family():
            raise NoView()
        self.work_out([other for other in self.many if is_part_of_view(view, other)])
        return self.found[view]

    def worked(self):
        return self.times_worked

    def copy(self):
        other = Rows(self.sizes)
        other.upcoming = self.upcoming
        other.standing = {number: view for number, view in self.standing.items()}
        other.many = {view: many for view, many in self.many.items()}
        other.done = list(self.done)
        other.found = {view: quotient for view, quotient in self.found.items()}
        other.times_worked = self.times_worked
        return other

    def judge_view(self, view):
        if not is_view(self.sizes, view):
            raise NoView()

    def judge_number(self, number):
        # A flag is equal to a number, so what is no integer must not be looked up.
        if not is_integer(number) or number not in self.standing:
            raise NoRow()

    def told_family(self):
        """The family of the rows' seen table, which is judged."""
        seen = self.seen()
        judge_told(seen)
        return family(seen)

    def do(self, number, ahead, behind):
        self.done.append((number, ahead, behind))
        self.change(number, ahead, behind)

    def change(self, number, ahead, behind):
        """Let a row go and another one come in its place, either of them perhaps None."""
        if ahead is not None:
            del self.standing[number]
            self.recount(ahead, self.many[ahead] - 1)
        if behind is not None:
            self.standing[number] = behind
            self.recount(behind, self.many.get(behind, 0) + 1)

    def recount(self, view, many):
        """Set how many rows have a view, and forget the quotients of its parts."""
        parts = [other for other in self.found if is_part_of_view(other, view)]
        for part in parts:
            del self.found[part]
        if many == 0:
            del self.many[view]
            return
        self.many[view] = many
        if BLANK not in view:
            self.found[view] = (many, 1)

    def work_out(self, views):
        """Find the quotients of views that stand, among which are all views that these are parts of."""
        for view in sorted(views, key=many_blanks):
            if view not in self.found:
                count = (self.many[view], 1)
                self.found[view] = worked_quotient(self.sizes, even_tilts(self.sizes), self.found, view, count)
                self.times_worked += 1
