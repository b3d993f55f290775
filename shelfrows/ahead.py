"""Rows ahead: the rows from which a row comes, past a light shelf."""

from shelfrows.errors import TooMany
from shelfrows.rows import check_unmarked, counts, row_of
from shelfrows.shelves import check_places

MOST_ROWS = 3000


def how_many(row, places):
    """Tell how many rows are ahead of a row, for a light shelf of some places."""
    check_unmarked(row)
    check_places(places)
    rows = 1
    for can_have in _counts_ahead(row, places):
        rows *= len(can_have)
    return rows


def ahead(row, places):
    """Tell the rows ahead of a row, for a light shelf of some places, as they rise."""
    many = how_many(row, places)
    if many > MOST_ROWS:
        raise TooMany(f"no more than {MOST_ROWS} rows are told")
    # Where only the least numbers have no room, there may yet be very many ways to
    # stand for the greater ones, which must not be gone through.
    if many == 0:
        return []
    told = [[]]
    for can_have in _counts_ahead(row, places):
        told = [[*ones, count] for ones in told for count in can_have]
    return sorted([row_of(row, ones) for ones in told])


def can_come(row, places):
    """Tell whether a row can come out behind a light shelf of some places."""
    return how_many(row, places) > 0


def _counts_ahead(row, places):
    """Tell, from the greatest number to the least, the counts it can have ahead."""
    now = dict(zip(row, counts(row)))
    return [
        _can_have(now[number], rank, places)
        for rank, number in enumerate(sorted(row, reverse=True))
    ]


def _can_have(count, rank, places):
    if count == 0:
        return list(range(min(rank, places) + 1))
    # Ahead of the k-th greatest number no more than k greater ones can stand.
    if count + places <= rank:
        return [count + places]
    return []
