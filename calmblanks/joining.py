"""Tables with worths of a column joined, or with a column left out."""

from calmblanks.basics import BLANK, all_tuples, gathered, is_between, is_tuple_of
from calmblanks.calm import first_uncalm, with_worth
from calmblanks.errors import LastColumn, NoColumn, NoLead, NotCalm
from calmblanks.tables import Seen, Whole

LEAST_NEW_WORTHS = 2


def is_lead(size, thing):
    """Whether a thing is a lead for a column with so many worths."""
    if not is_tuple_of(size, thing):
        return False
    many = 0
    for worth in thing:
        # Each new worth is the next one where it is first met.
        if not is_between(0, many, worth):
            return False
        many = max(many, worth + 1)
    return many >= LEAST_NEW_WORTHS


def judge_column(table, column):
    if not is_between(0, len(table.sizes) - 1, column):
        raise NoColumn()


def judge_lead(table, column, lead):
    if not is_lead(table.sizes[column], lead):
        raise NoLead()


def judge_calm(whole):
    uncalm = first_uncalm(whole)
    if uncalm is not None:
        raise NotCalm(uncalm[0])


def led(worths, column, lead):
    """A content or view with a column's worth led so."""
    return worths if worths[column] == BLANK else with_worth(worths, column, lead[worths[column]])


def table_led(table, column, lead):
    sizes = with_worth(table.sizes, column, max(lead) + 1)
    if isinstance(table, Whole):
        pairs = [((led(key[0], column, lead), key[1]), fraction) for key, fraction in table.shares]
        return Whole(sizes, gathered(pairs))
    return Seen(sizes, gathered([(led(key, column, lead), fraction) for key, fraction in table.shares]))


def worths_joined(table, column, lead):
    judge_column(table, column)
    judge_lead(table, column, lead)
    return table_led(table, column, lead)


def without_place(items, place):
    return items[:place] + items[place + 1:]


def pattern_without(pattern, column):
    """A pattern of the columns that are left, which have new numbers."""
    return tuple([other if other < column else other - 1 for other in pattern if other != column])


def without_column(table, column):
    judge_column(table, column)
    if len(table.sizes) == 1:
        raise LastColumn()
    sizes = without_place(table.sizes, column)
    if isinstance(table, Whole):
        pairs = [((without_place(key[0], column), pattern_without(key[1], column)), fraction)
                 for key, fraction in table.shares]
        return Whole(sizes, gathered(pairs))
    return Seen(sizes, gathered([(without_place(key, column), fraction) for key, fraction in table.shares]))


def first_spoilt(whole, column, lead):
    """The least column along which a whole with worths joined is not calm, None if it is."""
    uncalm = first_uncalm(table_led(whole, column, lead))
    return None if uncalm is None else uncalm[0]


def spoilt(whole, column, lead):
    judge_calm(whole)
    judge_column(whole, column)
    judge_lead(whole, column, lead)
    return first_spoilt(whole, column, lead)


def safe_leads(whole, column):
    judge_calm(whole)
    judge_column(whole, column)
    size = whole.sizes[column]
    leads = [lead for lead in all_tuples([list(range(size))] * size) if is_lead(size, lead)]
    return [lead for lead in leads if first_spoilt(whole, column, lead) is None]
