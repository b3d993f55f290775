"""Blocks: where marks may be put, how far off rows are, opposites, and rows by their needs."""

from shelfrows.needs import sorted_by
from shelfrows.rows import check_row, check_unmarked, counts


def may_mark(row):
    """Tell the places at which a mark may be put, so that a light shelf still sorts the row."""
    check_unmarked(row)
    return [place for place in range(len(row) + 1) if _none_greater_ahead(row, place)]


def blocks(row):
    """Tell the rows that stand between the places at which a mark may be put."""
    ends = may_mark(row)
    return [row[start:end] for start, end in zip(ends, ends[1:])]


def off(row):
    """Tell how many pairs of numbers stand the wrong way round."""
    return sum(counts(row))


def opposite(row):
    """Tell the row of each number's opposite, marks as they stand."""
    check_row(row)
    return tuple([None if part is None else -part for part in row])


def need_just(many, places):
    """Tell how many rows of so many numbers need just so many places."""
    as_many = sorted_by(many, places)
    # There is no shelf of fewer places than none, which any row would need.
    if places == 0:
        return as_many
    return as_many - sorted_by(many, places - 1)


def _none_greater_ahead(row, place):
    ahead = row[:place]
    behind = row[place:]
    return not ahead or not behind or max(ahead) < min(behind)
