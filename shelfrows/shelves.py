"""Shelves: rows past one shelf, rows past lines of shelves, and merged lines."""

from shelfrows.errors import NoLine, NoPlaces, NoShelf
from shelfrows.rows import check_row, check_unmarked, stretches
from shelfrows.wholes import is_whole_within

LIGHT = "light"
HEAVY = "heavy"
MOST_PLACES = 9
MOST_SHELVES = 8


def is_shelf(thing):
    """Tell whether a thing is a shelf: a tuple (word, places)."""
    if not isinstance(thing, tuple) or len(thing) != 2:
        return False
    return _is_word(thing[0]) and _is_places(thing[1])


def is_line(thing):
    """Tell whether a thing is a line: a tuple of up to 8 shelves."""
    if not isinstance(thing, tuple) or len(thing) > MOST_SHELVES:
        return False
    return all([is_shelf(shelf) for shelf in thing])


def past(row, shelf):
    """Tell the row that comes out behind a shelf."""
    check_row(row)
    _check_shelf(shelf)
    word, places = shelf
    came = []
    for stretch in stretches(row):
        came.extend(_let_past(stretch, word, [places] * len(stretch)))
        came.append(None)
    # Behind the last stretch there is no mark.
    return tuple(came[:-1])


def through(row, line):
    """Tell the row that comes out behind all shelves of a line."""
    check_row(row)
    check_line(line)
    came = row
    for shelf in line:
        came = past(came, shelf)
    return came


def moved(row, shelf):
    """Tell for each number how many places behind its own it comes out."""
    came = past(row, shelf)
    return [came.index(part) - place for place, part in enumerate(row) if part is not None]


def merged(line):
    """Tell a line without empty shelves, and with shelves of one word put together."""
    check_line(line)
    told = []
    for word, places in line:
        if places == 0:
            continue
        if told and told[-1][0] == word:
            told[-1] = (word, told[-1][1] + places)
        else:
            told.append((word, places))
    return tuple(told)


def past_with(row, word, places):
    """Tell the row behind a shelf whose places are told number by number."""
    check_unmarked(row)
    if not _is_word(word):
        raise NoShelf("the word of a shelf is light or heavy")
    if not _are_places(places, len(row)):
        raise NoPlaces("there is one number of places, from 0 to 9, for each number")
    return tuple(_let_past(row, word, places))


def check_line(line):
    """Refuse what is no line."""
    if not is_line(line):
        raise NoLine("a line is a tuple of up to 8 shelves")


def check_places(places, least=0):
    """Refuse what is no number of places that one shelf may have."""
    if not is_whole_within(places, least, MOST_PLACES):
        raise NoPlaces(f"places are a whole number from {least} to {MOST_PLACES}")


def let_on(standing, word, most):
    """Take from what stands on a shelf what goes on till no more than most stand."""
    gone = []
    while len(standing) > most:
        one = min(standing) if word == LIGHT else max(standing)
        standing.remove(one)
        gone.append(one)
    return gone


def _is_word(thing):
    return isinstance(thing, str) and thing in (LIGHT, HEAVY)


def _is_places(thing):
    return is_whole_within(thing, 0, MOST_PLACES)


def _are_places(thing, many):
    if not isinstance(thing, tuple) or len(thing) != many:
        return False
    return all([_is_places(places) for places in thing])


def _check_shelf(shelf):
    if not is_shelf(shelf):
        raise NoShelf("a shelf is a tuple of light or heavy, and places from 0 to 9")


def _let_past(numbers, word, places):
    """Let numbers without marks past a shelf, its places told number by number."""
    standing = []
    came = []
    for number, most in zip(numbers, places):
        standing.append(number)
        came.extend(let_on(standing, word, most))
    return came + let_on(standing, word, 0)
