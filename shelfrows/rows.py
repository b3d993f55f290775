"""Rows: their stretches, and how many greater numbers stand ahead of each."""

from shelfrows.errors import Marked, NoCounts, NoRow
from shelfrows.wholes import is_whole, is_whole_within

MOST_THINGS = 24


def is_row(thing):
    """Tell whether a thing is a row: a tuple of unlike whole numbers, and marks."""
    if not isinstance(thing, tuple) or len(thing) > MOST_THINGS:
        return False
    numbers = _numbers_of(thing)
    # Asked ahead of the set, as not everything can stand in one.
    if not all([is_whole(number) for number in numbers]):
        return False
    return len(set(numbers)) == len(numbers)


def check_row(row):
    """Refuse what is no row."""
    if not is_row(row):
        raise NoRow("a row is a tuple of up to 24 unlike whole numbers and marks")


def check_unmarked(row):
    """Refuse what is no row, then a row with marks."""
    check_row(row)
    if None in row:
        raise Marked("this row may have no marks")


def counts(row):
    """Tell for each number how many greater ones stand ahead of it in the row."""
    check_row(row)
    return _greater_ahead(_numbers_of(row))


def near_counts(row):
    """Tell for each number how many greater ones stand ahead of it in its stretch."""
    return [count for stretch in stretches(row) for count in _greater_ahead(stretch)]


def stretches(row):
    """Tell the lots of numbers between marks, one more than there are marks."""
    check_row(row)
    told = [()]
    for part in row:
        if part is None:
            told.append(())
        else:
            told[-1] = told[-1] + (part,)
    return told


def row_of(numbers, counts):
    """Tell the row of some numbers, by the counts from the greatest to the least."""
    check_unmarked(numbers)
    if not _are_counts(counts, len(numbers)):
        raise NoCounts("a row has a list of counts, the k-th one from 0 to k")
    row = []
    # All that stand there are greater than the number that is put among them,
    # so its place is its count, and no number put later changes that.
    for number, count in zip(sorted(numbers, reverse=True), counts):
        row.insert(count, number)
    return tuple(row)


def _numbers_of(things):
    return [thing for thing in things if thing is not None]


def _greater_ahead(numbers):
    return [
        len([other for other in numbers[:place] if other > number])
        for place, number in enumerate(numbers)
    ]


def _are_counts(thing, many):
    if not isinstance(thing, list) or len(thing) != many:
        return False
    return all([is_whole_within(count, 0, rank) for rank, count in enumerate(thing)])
