"""Texts: rows and lines written, and read back."""

from shelfrows.errors import NoText
from shelfrows.rows import check_row, is_row
from shelfrows.shelves import check_line, is_line

MARK = "|"
EMPTY_ROW = "none"
NO_SHELVES = "straight"
DIGITS = "0123456789"


def row_text(row):
    """Tell the text of a row."""
    check_row(row)
    return text_of(row)


def line_text(line):
    """Tell the text of a line."""
    check_line(line)
    if len(line) == 0:
        return NO_SHELVES
    return "\n".join([f"{word} {places}" for word, places in line])


def read_row(text):
    """Tell the row that has a text."""
    _check_text(text)
    if text == EMPTY_ROW:
        return ()
    row = tuple([_read_part(word) for word in text.split(" ")])
    if not is_row(row):
        raise NoText("a row has up to 24 things, its numbers unlike")
    return row


def read_line(text):
    """Tell the line that has a text."""
    _check_text(text)
    if text == NO_SHELVES:
        return ()
    line = tuple([_read_shelf(row) for row in text.split("\n")])
    if not is_line(line):
        raise NoText("a line has up to 8 shelves, light or heavy ones of 0 to 9 places")
    return line


def text_of(parts):
    """Tell the text of numbers and marks, however many, as what comes out of a line may be."""
    if len(parts) == 0:
        return EMPTY_ROW
    return " ".join([MARK if part is None else _number_text(part) for part in parts])


def _check_text(thing):
    if not isinstance(thing, str):
        raise NoText("a text is a string")


def _number_text(number):
    if number < 0:
        return "-" + _number_text(-number)
    # Python refuses to write a number of some thousand digits at once.
    ends = []
    while number >= 10 ** 50:
        number, end = divmod(number, 10 ** 50)
        ends.append(str(end).zfill(50))
    return str(number) + "".join(ends[::-1])


def _read_part(word):
    if word == MARK:
        return None
    return _read_number(word)


def _read_shelf(row):
    """Read a word and a number; whether they are a shelf is asked of the whole line."""
    words = row.split(" ")
    if len(words) != 2:
        raise NoText("a shelf is written as its word and its places, a blank between")
    return (words[0], _read_number(words[1]))


def _read_number(word):
    digits = word.removeprefix("-")
    if not _are_digits(digits) or (digits[0] == "0" and word != "0"):
        raise NoText("a number is written with digits, without noughts in front")
    number = 0
    # Python refuses to read some thousand digits at once, so each is read by itself.
    for digit in digits:
        number = 10 * number + int(digit)
    return number if word == digits else -number


def _are_digits(text):
    return text != "" and all([sign in DIGITS for sign in text])
