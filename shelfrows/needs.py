"""Needs: how few places, and how few shelves, sort a row, and how many rows they sort."""

from shelfrows.errors import TooMany
from shelfrows.rows import MOST_THINGS, check_row, check_unmarked, counts, near_counts
from shelfrows.shelves import check_places
from shelfrows.wholes import is_whole_within


def needed(row):
    """Tell for each number how many places a light shelf needs there to sort the row."""
    check_unmarked(row)
    return [_needed_at(row, place) for place in range(len(row))]


def places(row):
    """Tell how many places one light shelf needs to sort a row; None where none sorts it."""
    check_row(row)
    return _places_to_sort(row)


def shelves(row, places):
    """Tell how many light shelves of some places a row needs; None where none sort it."""
    check_row(row)
    check_places(places, 1)
    most = _places_to_sort(row)
    if most is None:
        return None
    return (most + places - 1) // places


def sorted_by(many, places):
    """Tell how many rows of so many numbers are sorted by one light shelf of some places."""
    if not is_whole_within(many, 0, MOST_THINGS):
        raise TooMany(f"a row has from 0 to {MOST_THINGS} numbers")
    check_places(places)
    rows = 1
    # The k-th greatest number has a count from 0 to k, and is sorted from one up to places.
    for rank in range(many):
        rows *= min(rank, places) + 1
    return rows


def _needed_at(row, place):
    behind = row[place + 1:]
    if not behind:
        return 0
    least = min(behind)
    return len([number for number in row[:place + 1] if number > least])


def _places_to_sort(row):
    told = counts(row)
    # No shelf lets a number past a mark, nor past the numbers on its other side.
    if told != near_counts(row):
        return None
    return max(told, default=0)
