"""What the document promises over the whole program."""

import copy
import unittest

from shelfrows.ahead import ahead, can_come, how_many
from shelfrows.blocks import blocks, may_mark, need_just, off, opposite
from shelfrows.errors import ShelfError
from shelfrows.lettings import comes_out, gained, own_way
from shelfrows.lines import Line
from shelfrows.mending import mended, move
from shelfrows.needs import needed, places, shelves, sorted_by
from shelfrows.rows import counts, is_row, near_counts, row_of, stretches
from shelfrows.shelves import is_line, is_shelf, merged, moved, past, past_with, through
from shelfrows.texts import line_text, read_line, read_row, row_text
from tests import plain

LINE_TEXTS = [
    "straight",
    "light 0",
    "heavy 9",
    "light 1\nlight 2",
    "light 2\nheavy 0\nlight 1",
    "heavy 1\nheavy 1\nlight 0\nlight 3",
    "light 1\nheavy 2\nlight 0\nheavy 3\nlight 2",
    "light 0\nheavy 0\nlight 0",
    "light 1\nheavy 1\nlight 1\nheavy 1\nlight 1\nheavy 1\nlight 1\nheavy 1",
    "light 9\nlight 9",
    "heavy 9\nheavy 1\nlight 5\nlight 6\nheavy 9",
]

ROW_TEXTS = [row_text(row) for row in plain.ROWS[::3] + plain.LONG + plain.FALLING]

# Each call of the interface, with what is handed in, marked rows and empty ones among it.
CALLS = [
    (is_row, (3, None, 1)), (is_row, [1]), (counts, (3, None, 1, 2)), (near_counts, (3, None, 1, 2)),
    (stretches, (3, None, 1, 2)), (row_of, (10, 20, 30), [0, 0, 2]), (is_shelf, ("light", 3)),
    (is_line, (("light", 3), ("heavy", 0))), (past, (3, 1, None, 2, 0), ("light", 1)),
    (through, (3, 1, None, 2, 0), (("light", 1), ("heavy", 2))), (moved, (3, 1, 2), ("heavy", 1)),
    (merged, (("light", 6), ("heavy", 0), ("light", 6))), (past_with, (3, 2, 1), "light", (1, 0, 1)),
    (needed, (2, 3, 1)), (needed, ()), (places, (2, 3, 1)), (places, (2, None, 1)),
    (shelves, (4, 3, 2, 1), 2), (sorted_by, 24, 9), (comes_out, (2, 1), 1, ("on", "on", 1, 2)),
    (own_way, (3, 1, 2), 1), (gained, (2, 1), 1, ("on", "on", 1, 2)), (how_many, (2, 1, 3), 1),
    (ahead, (2, 1, 3), 1), (ahead, (3, 2, 1), 1), (can_come, (2, 1, 3), 1), (move, (3, 1, 2), 0, 2),
    (mended, (3, 1, 2)), (mended, (1, 2)), (may_mark, (2, 1, 3)), (blocks, (2, 1, 3)), (blocks, ()),
    (off, (3, None, 1)), (opposite, (3, None, 1)), (need_just, 24, 9), (row_text, (3, None, 1)),
    (line_text, (("light", 3), ("heavy", 0))), (read_row, "3 | 1"), (read_row, "none"),
    (read_line, "light 3\nheavy 0"), (read_line, "straight"),
    (counts, [1, 2]), (row_of, (1, 2), [1, 1]), (past, (1, 2), ["light", 1]), (needed, (None,)),
    (gained, (2, 1), 1, ["on", 2, "on", 1]), (ahead, tuple(range(24)), 9), (move, (1, 2), [0], 1),
    (need_just, 25, 1), (read_row, ["1"]), (read_line, "light  1"), (row_text, {1: 2}),
]


def asked(call, handed):
    """Tell what a call tells, or the kind of its refusal."""
    try:
        return call(*handed)
    except ShelfError as refusal:
        return refusal.__class__


def put_all(line, row):
    """Put a row upon a line, number by number; tell all that comes out, also at the end."""
    came = []
    for part in row:
        came.extend(line.mark() if part is None else line.come(part))
    return tuple(came + line.finish())


def with_places(row):
    """Tell as few light shelves as together have the places that a row needs."""
    most = places(row)
    return (("light", 9),) * (most // 9) + ((("light", most % 9),) if most % 9 else ())


class TestRowsAndLinesReadFromTexts(unittest.TestCase):
    def test_put_number_by_number_they_come_out_as_the_row_past_the_line(self):
        for line_as_text in LINE_TEXTS:
            shelves_read = read_line(line_as_text)
            self.assertEqual(line_text(shelves_read), line_as_text)
            for row_as_text in ROW_TEXTS:
                row = read_row(row_as_text)
                line = Line(shelves_read)
                came = put_all(line, row)
                self.assertEqual(came, through(row, shelves_read))
                self.assertEqual(came, line.out())
                self.assertEqual(str(line), row_text(came))
                self.assertEqual(read_row(str(line)), came)

    def test_a_merged_line_does_the_same_to_them(self):
        for line_as_text in LINE_TEXTS:
            shelves_read = read_line(line_as_text)
            fewer = merged(shelves_read)
            for row in map(read_row, ROW_TEXTS):
                came = through(row, shelves_read)
                self.assertEqual(plain.line_past(row, fewer), came)
                if is_line(fewer):
                    self.assertEqual(through(row, read_line(line_text(fewer))), came)
                    self.assertEqual(put_all(Line(fewer), row), came)

    def test_call_by_call_both_stand_apart_and_come_out_as_one(self):
        # Of unlike shelves a line is unlike, though what comes out is the same.
        one, other = Line(read_line("light 1\nlight 2")), Line(merged(read_line("light 1\nlight 2")))
        for number in (5, 1, 4, 2, 3):
            self.assertEqual(one.come(number), other.come(number))
            self.assertEqual(sorted(sum(one.standing(), [])), sum(other.standing(), []))
        self.assertEqual(one.finish(), other.finish())
        self.assertIs(one == other, False)


class TestAsManyPlacesAsNeeded(unittest.TestCase):
    def test_a_row_comes_out_sorted(self):
        for row in plain.UNMARKED + plain.FALLING + plain.ONE_BEHIND:
            told = with_places(row)
            self.assertTrue(plain.is_sorted(through(row, told)))
            self.assertTrue(plain.is_sorted(put_all(Line(told), row)))

    def test_with_one_place_fewer_it_does_not(self):
        for row in plain.UNMARKED + plain.FALLING + plain.ONE_BEHIND:
            if places(row) > 0:
                word, most = with_places(row)[-1]
                fewer = with_places(row)[:-1] + ((word, most - 1),)
                self.assertFalse(plain.is_sorted(put_all(Line(fewer), row)))

    def test_as_many_shelves_as_needed_sort_it_and_one_fewer_does_not(self):
        for row in plain.UNMARKED + plain.FALLING:
            for most in range(1, 10):
                many = shelves(row, most)
                if many <= 8:
                    came = put_all(Line((("light", most),) * many), row)
                    self.assertTrue(plain.is_sorted(came))
                if 1 <= many <= 9:
                    came = put_all(Line((("light", most),) * (many - 1)), row)
                    self.assertFalse(plain.is_sorted(came))

    def test_a_mended_row_comes_out_sorted_with_the_places_then_needed(self):
        for row in plain.UNMARKED:
            told = mended(row)
            if told is not None:
                one, other, then = told
                came = move(row, one, other)
                self.assertEqual(places(came), then)
                self.assertTrue(plain.is_sorted(put_all(Line(with_places(came)), came)))

    def test_each_block_by_itself_comes_out_as_the_row_does(self):
        for row in plain.UNMARKED + plain.FALLING:
            for most in range(0, 10, 3):
                line, apart = Line((("light", most),)), Line((("light", most),))
                for block in blocks(row):
                    put_all(apart, block)
                self.assertEqual(put_all(line, row), apart.out())

    def test_what_a_row_is_off_is_what_its_shelves_take_from_it(self):
        for row in plain.UNMARKED:
            self.assertEqual(off(row), sum(counts(row)))
            self.assertEqual(off(through(row, with_places(row))), 0)


class TestRowsAhead(unittest.TestCase):
    def test_each_row_ahead_of_what_came_out_let_past_comes_out_so(self):
        for row in plain.UNMARKED:
            for most in (0, 1, 2, 9):
                came = put_all(Line((("light", most),)), row)
                self.assertIs(can_come(came, most), True)
                if how_many(came, most) <= 300:
                    told = ahead(came, most)
                    self.assertIn(row, told)
                    self.assertEqual(len(told), how_many(came, most))
                    for one in told:
                        self.assertEqual(put_all(Line((("light", most),)), one), came)
                        self.assertEqual(comes_out(one, most, own_way(one, most)), came)

    def test_a_heavy_shelf_by_opposites(self):
        for row in plain.ROWS:
            for most in (0, 1, 4, 9):
                came = put_all(Line((("light", most),)), opposite(row))
                self.assertEqual(put_all(Line((("heavy", most),)), row), opposite(came))


class TestAskedAgain(unittest.TestCase):
    def test_all_is_told_as_at_first(self):
        first = [asked(call, handed) for call, *handed in CALLS]
        for _ in range(2):
            for (call, *handed), told in zip(CALLS, first):
                again = asked(call, handed)
                self.assertEqual(again, told, call.__name__)
                self.assertIs(type(again), type(told))

    def test_equal_things_give_equal_answers(self):
        for call, *handed in CALLS:
            self.assertEqual(asked(call, handed), asked(call, copy.deepcopy(handed)), call.__name__)

    def test_lists_that_are_told_are_new_ones_each_time(self):
        for call, *handed in CALLS:
            told = asked(call, handed)
            if isinstance(told, list):
                as_it_was = list(told)
                told.append("more")
                again = asked(call, handed)
                self.assertIsNot(again, told)
                self.assertEqual(again, as_it_was, call.__name__)

    def test_nothing_that_is_handed_in_is_changed_or_told_again(self):
        for call, *handed in CALLS:
            as_it_was = copy.deepcopy(handed)
            told = asked(call, handed)
            self.assertEqual(handed, as_it_was, call.__name__)
            if isinstance(told, list):
                self.assertFalse(any(one is told for one in handed))

    def test_a_list_that_was_handed_in_is_not_kept(self):
        told = [0, 0, 2]
        row = row_of((10, 20, 30), told)
        told[2] = 0
        self.assertEqual(row, (20, 30, 10))
        self.assertEqual(row_of((10, 20, 30), told), (10, 20, 30))

    def test_lines_behind_the_same_calls(self):
        for line_as_text in LINE_TEXTS:
            for row in plain.MARKED[::9]:
                one, other = Line(read_line(line_as_text)), Line(read_line(line_as_text))
                self.assertEqual(put_all(one, row), put_all(other, row))
                self.assertTrue(one == other)
                self.assertEqual((one.standing(), one.out(), str(one)), (other.standing(), other.out(), str(other)))
