"""Lettings: what anyone can do with a shelf, and what the shelf itself does."""

from shelfrows.errors import NoLetting
from shelfrows.rows import check_unmarked, counts
from shelfrows.shelves import LIGHT, check_places, let_on
from shelfrows.wholes import is_whole

ON = "on"


def comes_out(row, places, letting):
    """Tell the row that comes out by a letting."""
    check_unmarked(row)
    check_places(places)
    if not _is_letting(row, places, letting):
        raise NoLetting("a letting has an on for each number, and each number where it is let off")
    return tuple([step for step in letting if is_whole(step)])


def own_way(row, places):
    """Tell the letting of a light shelf, by which always the least is let off."""
    check_unmarked(row)
    check_places(places)
    way = []
    standing = []
    for number in row:
        way.append(ON)
        standing.append(number)
        way.extend(let_on(standing, LIGHT, places))
    return tuple(way + let_on(standing, LIGHT, 0))


def gained(row, places, letting):
    """Tell for each number how much less its count is behind a letting."""
    came = comes_out(row, places, letting)
    then = dict(zip(came, counts(came)))
    return [count - then[number] for number, count in zip(row, counts(row))]


def _is_letting(row, places, letting):
    # No number is put on twice, nor let off where it does not stand, so with twice as
    # many steps as numbers each one has been put on, and let off, when they end.
    if not isinstance(letting, tuple) or len(letting) != 2 * len(row):
        return False
    standing = []
    put_on = 0
    for step in letting:
        if _is_on(step):
            if put_on == len(row) or len(standing) > places:
                return False
            standing.append(row[put_on])
            put_on += 1
        elif is_whole(step) and step in standing:
            standing.remove(step)
        else:
            return False
    return True


def _is_on(step):
    return isinstance(step, str) and step == ON
