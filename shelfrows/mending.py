"""Mending: moves of one number, and the one behind which a row needs fewest places."""

from shelfrows.errors import NoMove
from shelfrows.needs import places
from shelfrows.rows import check_unmarked
from shelfrows.wholes import is_whole_within


def move(row, one, other):
    """Tell the row in which the number from one place stands at another."""
    check_unmarked(row)
    last = len(row) - 1
    if not is_whole_within(one, 0, last) or not is_whole_within(other, 0, last):
        raise NoMove("a number is moved from a place of the row to a place of it")
    return _put_at(row, one, other)


def mended(row):
    """Tell the move behind which a row needs fewest places, and how many; None without one."""
    check_unmarked(row)
    best = None
    fewest = places(row)
    # The moves are gone through as tuples rise, so of several the first one stays.
    for one in range(len(row)):
        for other in range(len(row)):
            then = places(_put_at(row, one, other))
            if then < fewest:
                fewest = then
                best = (one, other, then)
    return best


def _put_at(row, one, other):
    left = row[:one] + row[one + 1:]
    return left[:other] + (row[one],) + left[other:]
