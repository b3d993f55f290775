import unittest

from shelfrows.errors import Marked, NoLine, NoPlaces, NoRow, NoShelf
from shelfrows.shelves import is_line, is_shelf, merged, moved, past, past_with, through
from tests import plain
from tests.refusals import assert_refused

LINES = [
    (),
    (("light", 0),),
    (("heavy", 9),),
    (("light", 2), ("light", 3)),
    (("light", 2), ("heavy", 1)),
    (("heavy", 1), ("light", 2)),
    (("light", 0), ("heavy", 0), ("light", 0)),
    (("light", 1), ("heavy", 0), ("light", 1)),
    (("light", 1), ("heavy", 0), ("heavy", 0), ("light", 1), ("heavy", 1)),
    (("heavy", 2), ("light", 0), ("light", 0), ("heavy", 2), ("light", 1), ("light", 1)),
    (("heavy", 0), ("light", 3), ("heavy", 0)),
    (("light", 6), ("light", 6)),
    (("heavy", 9), ("heavy", 9), ("light", 9), ("light", 1)),
    (("light", 9),) * 8,
    (("heavy", 9),) * 8,
    (("light", 1), ("heavy", 1)) * 4,
    (("light", 0), ("heavy", 9)) * 4,
]

# How many places there are first, and the step by which they change, modulo 10.
CHANGING = [(3, 1), (0, 2), (9, 0), (2, 2), (5, 7), (1, 3), (7, 1)]


def places_told(row):
    """Some tuples of places for a row, that rise, fall and stay."""
    told = [tuple((first + step * at) % 10 for at in range(len(row))) for first, step in CHANGING]
    return told + [(places,) * len(row) for places in range(10)]


class TestIsShelf(unittest.TestCase):
    def test_shelves(self):
        for shelf in plain.SHELVES:
            self.assertIs(is_shelf(shelf), True, shelf)

    def test_what_is_no_shelf(self):
        for thing in plain.NOT_SHELVES:
            self.assertIs(is_shelf(thing), False, thing)

    def test_places_from_0_to_9(self):
        for word in ("light", "heavy"):
            told = [is_shelf((word, places)) for places in (-1, 0, 1, 9, 10)]
            self.assertEqual(told, [False, True, True, True, False])

    def test_true_and_false_are_no_places(self):
        self.assertIs(is_shelf(("light", True)), False)
        self.assertIs(is_shelf(("heavy", False)), False)


class TestIsLine(unittest.TestCase):
    def test_lines(self):
        for line in LINES:
            self.assertIs(is_line(line), True, line)

    def test_the_empty_line_lines_of_8_and_of_9(self):
        for shelf in plain.SHELVES:
            told = [is_line((shelf,) * many) for many in (0, 1, 8, 9)]
            self.assertEqual(told, [True, True, True, False])

    def test_what_is_no_line(self):
        for thing in plain.NOT_LINES:
            self.assertIs(is_line(thing), False, thing)


class TestPast(unittest.TestCase):
    def test_told_rows(self):
        for row, shelf, came in [
            ((), ("light", 3), ()),
            ((5,), ("light", 0), (5,)),
            ((5,), ("heavy", 9), (5,)),
            ((None,), ("light", 1), (None,)),
            ((3, 1, 2), ("light", 0), (3, 1, 2)),
            ((3, 1, 2), ("light", 1), (1, 2, 3)),
            ((3, 1, 2), ("heavy", 1), (3, 2, 1)),
            ((3, 2, 1), ("light", 1), (2, 1, 3)),
            ((3, 2, 1), ("light", 2), (1, 2, 3)),
            ((1, 2, 3), ("heavy", 1), (2, 3, 1)),
            ((3, None, 1, 2), ("light", 1), (3, None, 1, 2)),
            ((3, 2, None, 1), ("light", 9), (2, 3, None, 1)),
            ((3, 1, 2, None, None, 0, 5), ("heavy", 9), (3, 2, 1, None, None, 5, 0)),
            ((None, 2, 1, None), ("light", 1), (None, 1, 2, None)),
        ]:
            self.assertEqual(past(row, shelf), came)

    def assert_less(self, row, came, places, ahead):
        """Assert [6]: the near counts are less by places, not below 0, the counts just as much."""
        near, near_then = plain.near(ahead, row), plain.near(ahead, came)
        far, far_then = ahead(row), ahead(came)
        for one in plain.numbers_of(row):
            self.assertEqual(near_then[one], max(0, near[one] - places))
            self.assertEqual(far[one] - far_then[one], near[one] - near_then[one])

    def test_counts_are_less_by_places(self):
        ways = {"light": plain.greater_ahead, "heavy": plain.lesser_ahead}
        for row in plain.ROWS:
            for word, places in plain.SHELVES:
                came = past(row, (word, places))
                self.assert_less(row, came, places, ways[word])

    def test_marks_stay_and_each_stretch_keeps_its_numbers(self):
        for row in plain.ROWS:
            for shelf in plain.SHELVES:
                came = past(row, shelf)
                self.assertIs(type(came), tuple)
                self.assertEqual(plain.marks_of(came), plain.marks_of(row))
                self.assertEqual(
                    [sorted(stretch) for stretch in plain.stretches_of(came)],
                    [sorted(stretch) for stretch in plain.stretches_of(row)],
                )

    def test_a_shelf_without_places_changes_nothing(self):
        for row in plain.ROWS:
            self.assertEqual(past(row, ("light", 0)), row)
            self.assertEqual(past(row, ("heavy", 0)), row)

    def test_9_places_and_24_numbers(self):
        falling = tuple(range(24, 0, -1))
        self.assertEqual(past(falling, ("light", 9)), tuple(range(15, 0, -1)) + tuple(range(16, 25)))
        self.assertEqual(past(falling, ("heavy", 9)), falling)

    def test_two_shelves_of_one_word_do_what_one_with_both_places_does(self):
        for row in plain.UNMARKED[30:60] + plain.LONG[::6] + plain.MARKED[::9]:
            for word in ("light", "heavy"):
                for one in range(10):
                    for other in range(10 - one):
                        both = past(row, (word, one + other))
                        self.assertEqual(past(past(row, (word, one)), (word, other)), both)
                        self.assertEqual(past(past(row, (word, other)), (word, one)), both)

    def test_two_shelves_of_more_than_9_places_together_in_either_order(self):
        for row in plain.LONG + plain.MARKED[-10:]:
            for word in ("light", "heavy"):
                for one, other in [(9, 9), (5, 7), (1, 9), (8, 3)]:
                    both = plain.shelf_past(row, (word, one + other))
                    self.assertEqual(past(past(row, (word, one)), (word, other)), both)
                    self.assertEqual(past(past(row, (word, other)), (word, one)), both)


class TestThrough(unittest.TestCase):
    def test_told_rows(self):
        for row, line, came in [
            ((), (), ()),
            ((3, 1, 2), (), (3, 1, 2)),
            ((3, 1, 2), (("light", 1),), (1, 2, 3)),
            ((3, 1, 2), (("light", 1), ("heavy", 1)), (2, 3, 1)),
            ((3, 1, 2), (("heavy", 1), ("light", 1)), (2, 1, 3)),
            ((4, 3, None, 2, 1), (("light", 1), ("heavy", 1)), (4, 3, None, 2, 1)),
        ]:
            self.assertEqual(through(row, line), came)

    def test_past_the_shelves_one_by_one(self):
        for row in plain.ROWS[::3] + plain.LONG:
            for line in LINES:
                came = row
                for shelf in line:
                    came = past(came, shelf)
                self.assertEqual(through(row, line), came)
                self.assertEqual(came, plain.line_past(row, line))


class TestMoved(unittest.TestCase):
    def test_told_rows(self):
        for row, shelf, told in [
            ((), ("light", 2), []),
            ((5,), ("light", 2), [0]),
            ((None, None), ("heavy", 2), []),
            ((3, 1, 2), ("light", 1), [2, -1, -1]),
            ((3, 1, 2), ("heavy", 1), [0, 1, -1]),
            ((3, 1, 2), ("light", 0), [0, 0, 0]),
            ((3, 2, None, 1), ("light", 1), [1, -1, 0]),
            ((None, 1, None, None, 0, 4, 2), ("heavy", 1), [0, 2, -1, -1]),
        ]:
            self.assertEqual(moved(row, shelf), told)

    def test_each_number_comes_out_so_far_behind_its_own_place(self):
        for row in plain.ROWS:
            for shelf in plain.SHELVES:
                came = plain.shelf_past(row, shelf)
                self.assertEqual(
                    moved(row, shelf),
                    [came.index(one) - row.index(one) for one in plain.numbers_of(row)],
                )

    def test_it_adds_up_to_0(self):
        for row in plain.ROWS:
            for shelf in plain.SHELVES:
                self.assertEqual(sum(moved(row, shelf)), 0)

    def test_lists_new_each_time(self):
        told = moved((2, 1), ("light", 1))
        self.assertIs(type(told), list)
        told.append(5)
        self.assertEqual(moved((2, 1), ("light", 1)), [1, -1])


class TestMerged(unittest.TestCase):
    def test_told_lines(self):
        for line, told in [
            ((), ()),
            ((("light", 0),), ()),
            ((("light", 0), ("heavy", 0)) * 4, ()),
            ((("light", 3),), (("light", 3),)),
            ((("light", 3), ("light", 4)), (("light", 7),)),
            ((("heavy", 3), ("light", 4)), (("heavy", 3), ("light", 4))),
            ((("light", 3), ("heavy", 0), ("light", 4)), (("light", 7),)),
            ((("light", 6), ("light", 6)), (("light", 12),)),
            ((("light", 9),) * 8, (("light", 72),)),
            ((("heavy", 9),) * 8, (("heavy", 72),)),
            (
                (("light", 0), ("heavy", 1), ("light", 0), ("heavy", 9), ("light", 2), ("heavy", 1)),
                (("heavy", 10), ("light", 2), ("heavy", 1)),
            ),
        ]:
            self.assertEqual(merged(line), told)
            self.assertIs(type(merged(line)), tuple)

    def test_no_shelf_without_places_and_no_two_of_one_word_side_by_side(self):
        for line in LINES:
            told = merged(line)
            self.assertNotIn(0, [places for _, places in told])
            words = [word for word, _ in told]
            for one, other in zip(words, words[1:]):
                self.assertNotEqual(one, other)
            for word in ("light", "heavy"):
                self.assertEqual(
                    sum(places for one, places in told if one == word),
                    sum(places for one, places in line if one == word),
                )

    def test_it_does_the_same_to_rows(self):
        for row in plain.ROWS[::3] + plain.LONG:
            for line in LINES:
                self.assertEqual(plain.line_past(row, merged(line)), through(row, line))

    def test_a_merged_line_within_the_limits_is_a_line(self):
        line = (("light", 2), ("heavy", 0), ("light", 3), ("heavy", 1))
        for row in plain.ROWS:
            self.assertEqual(through(row, merged(line)), through(row, line))


class TestPastWith(unittest.TestCase):
    def test_told_rows(self):
        for row, word, places, came in [
            ((), "light", (), ()),
            ((), "heavy", (), ()),
            ((5,), "light", (0,), (5,)),
            ((5,), "heavy", (9,), (5,)),
            ((3, 2, 1), "light", (1, 1, 1), (2, 1, 3)),
            ((3, 2, 1), "light", (1, 2, 0), (1, 2, 3)),
            ((3, 2, 1), "light", (0, 9, 9), (3, 1, 2)),
            ((3, 2, 1), "light", (1, 0, 1), (2, 3, 1)),
            ((1, 3, 2), "heavy", (2, 2, 0), (3, 2, 1)),
            ((1, 2, 3), "heavy", (1, 0, 1), (2, 1, 3)),
        ]:
            self.assertEqual(past_with(row, word, places), came)

    def test_the_count_behind_a_light_shelf(self):
        for row in plain.UNMARKED:
            for places in places_told(row):
                came = past_with(row, "light", places)
                self.assertIs(type(came), tuple)
                self.assertEqual(sorted(came), sorted(row))
                self.assertEqual(plain.greater_ahead(came), plain.counts_with(row, places))

    def test_the_count_of_lesser_ones_behind_a_heavy_shelf(self):
        for row in plain.UNMARKED:
            for places in places_told(row):
                came = plain.opposite_of(past_with(row, "heavy", places))
                self.assertEqual(sorted(plain.opposite_of(came)), sorted(row))
                told = plain.counts_with(plain.opposite_of(row), places)
                self.assertEqual(plain.greater_ahead(came), told)

    def test_the_same_places_all_along_are_a_shelf(self):
        for row in plain.UNMARKED:
            for word, places in plain.SHELVES:
                came = past_with(row, word, (places,) * len(row))
                self.assertEqual(came, past(row, (word, places)))

    def test_no_places_do_what_a_mark_behind_that_number_does(self):
        for row in plain.LONG:
            row = row[:23]
            for at in range(23):
                marked = row[:at + 1] + (None,) + row[at + 1:]
                for word in ("light", "heavy"):
                    places = tuple(0 if place == at else 4 for place in range(23))
                    came = [one for one in past(marked, (word, 4)) if one is not None]
                    self.assertEqual(past_with(row, word, places), tuple(came))


class TestRefusals(unittest.TestCase):
    def test_no_row(self):
        for thing in plain.NOT_ROWS:
            assert_refused(self, NoRow, past, thing, ("light", 1))
            assert_refused(self, NoRow, moved, thing, ("light", 1))
            assert_refused(self, NoRow, through, thing, ())
            assert_refused(self, NoRow, past_with, thing, "light", ())
            assert_refused(self, NoRow, past_with, thing, "light", (1, 1))

    def test_no_shelf(self):
        for thing in plain.NOT_SHELVES:
            for row in [(), (2, 1), (None,)]:
                assert_refused(self, NoShelf, past, row, thing)
                assert_refused(self, NoShelf, moved, row, thing)

    def test_no_line(self):
        for thing in plain.NOT_LINES:
            assert_refused(self, NoLine, merged, thing)
            for row in [(), (2, 1), (None,)]:
                assert_refused(self, NoLine, through, row, thing)

    def test_marked(self):
        for row in plain.MARKED:
            assert_refused(self, Marked, past_with, row, "light", (1,) * len(row))
            assert_refused(self, Marked, past_with, row, "heavy", (1,) * len(plain.numbers_of(row)))

    def test_no_word(self):
        for word in plain.NOT_WORDS:
            assert_refused(self, NoShelf, past_with, (2, 1), word, (1, 1))
            assert_refused(self, NoShelf, past_with, (), word, ())

    def test_no_places(self):
        for wrong in plain.NOT_PLACES:
            assert_refused(self, NoPlaces, past_with, (2, 1), "light", (1, wrong))
            assert_refused(self, NoPlaces, past_with, (2, 1), "heavy", (wrong, 1))
        for places in [
            (), (1,), (1, 1, 1), [1, 1], [], "11", b"11", None, 1, True, {}, {1: 1, 2: 2}, {1, 2}, range(2),
            object(), ((1, 1),),
        ]:
            assert_refused(self, NoPlaces, past_with, (2, 1), "light", places)
        for places in [(1,), (None,), [], "", None, {}, set(), 0, False]:
            assert_refused(self, NoPlaces, past_with, (), "heavy", places)

    def test_the_one_named_first_is_raised(self):
        assert_refused(self, NoRow, past, [2, 1], ["light", 1])
        assert_refused(self, NoRow, past, (1, 1), None)
        assert_refused(self, NoRow, moved, (1, True), ("light", 10))
        assert_refused(self, NoRow, through, None, None)
        assert_refused(self, NoRow, through, (1, 1), (("light", 10),))
        assert_refused(self, NoRow, past_with, (None, 1, 1), "no", None)
        assert_refused(self, NoRow, past_with, [1], "light", (1, 1))
        assert_refused(self, Marked, past_with, (None, 1), "no", None)
        assert_refused(self, Marked, past_with, (None, 1), "light", [1])
        assert_refused(self, NoShelf, past_with, (2, 1), "no", None)
        assert_refused(self, NoShelf, past_with, (2, 1), None, (1,))
        assert_refused(self, NoShelf, past_with, (2, 1), "Light", (1, 10))

    def test_what_was_handed_in_is_unchanged(self):
        row, shelf, line, places = [2, 1], ["light", 1], [("light", 1)], [1, 1]
        assert_refused(self, NoRow, past, row, shelf)
        assert_refused(self, NoShelf, past, (2, 1), shelf)
        assert_refused(self, NoLine, through, (2, 1), line)
        assert_refused(self, NoLine, merged, line)
        assert_refused(self, NoPlaces, past_with, (2, 1), "light", places)
        self.assertEqual((row, shelf, line, places), ([2, 1], ["light", 1], [("light", 1)], [1, 1]))
