import unittest

from shelfrows.errors import Marked, NoCounts, NoRow
from shelfrows.rows import counts, is_row, near_counts, row_of, stretches
from tests import plain
from tests.refusals import assert_refused


class TestIsRow(unittest.TestCase):
    def test_rows(self):
        for row in plain.ROWS:
            self.assertIs(is_row(row), True, row)

    def test_the_empty_row_one_number_and_marks_alone(self):
        for row in [(), (0,), (1,), (-5,), (None,), (None, None), (None, 1, None, None, 2, None)]:
            self.assertIs(is_row(row), True, row)

    def test_up_to_24_things_marks_counted(self):
        self.assertIs(is_row(tuple(range(24))), True)
        self.assertIs(is_row(tuple(range(25))), False)
        self.assertIs(is_row((None,) * 24), True)
        self.assertIs(is_row((None,) * 25), False)
        self.assertIs(is_row(tuple(range(23)) + (None,)), True)
        self.assertIs(is_row(tuple(range(24)) + (None,)), False)

    def test_numbers_below_0_and_very_large_ones(self):
        # Python gives -1 and -2, and 0 and 2 ** 61 - 1, the same hash.
        for row in [(-1, -2), (0, 2 ** 61 - 1), (plain.HUGE, -plain.HUGE, plain.HUGE + 1)]:
            self.assertIs(is_row(row), True, row)

    def test_what_is_no_row(self):
        for thing in plain.NOT_ROWS:
            self.assertIs(is_row(thing), False, thing)

    def test_true_and_false_are_no_numbers(self):
        for row in [(True,), (False,), (1, True), (0, False), (5, None, True), (True, False)]:
            self.assertIs(is_row(row), False, row)


class TestStretches(unittest.TestCase):
    def test_told_rows(self):
        for row, told in [
            ((), [()]),
            ((3,), [(3,)]),
            ((3, 1, 2), [(3, 1, 2)]),
            ((None,), [(), ()]),
            ((None, None), [(), (), ()]),
            ((3, None, 1), [(3,), (1,)]),
            ((None, 3, 1), [(), (3, 1)]),
            ((3, 1, None), [(3, 1), ()]),
            ((3, None, None, 1), [(3,), (), (1,)]),
            ((None, 0, None, None, -2, 5, None), [(), (0,), (), (-2, 5), ()]),
        ]:
            self.assertEqual(stretches(row), told)

    def test_one_more_than_marks_and_together_the_row(self):
        for row in plain.ROWS:
            told = stretches(row)
            self.assertEqual(len(told), row.count(None) + 1)
            self.assertEqual([one for stretch in told for one in stretch], plain.numbers_of(row))
            self.assertEqual(told, plain.stretches_of(row))

    def test_a_list_of_tuples_new_each_time(self):
        row = (2, None, 1)
        told = stretches(row)
        self.assertIs(type(told), list)
        self.assertEqual([type(stretch) for stretch in told], [tuple, tuple])
        told.append((9,))
        self.assertEqual(stretches(row), [(2,), (1,)])


class TestCounts(unittest.TestCase):
    def test_told_rows(self):
        for row, told in [
            ((), []),
            ((7,), [0]),
            ((None,), []),
            ((None, None), []),
            ((1, 2, 3), [0, 0, 0]),
            ((3, 2, 1), [0, 1, 2]),
            ((2, 3, 1), [0, 0, 2]),
            ((3, None, 1, 2), [0, 1, 1]),
            ((None, -1, None, None, -2, 5, 0, None), [0, 1, 0, 1]),
        ]:
            self.assertEqual(counts(row), told)

    def test_near_counts_of_told_rows(self):
        for row, told in [
            ((), []),
            ((7,), [0]),
            ((None,), []),
            ((3, 2, 1), [0, 1, 2]),
            ((3, None, 1, 2), [0, 0, 0]),
            ((3, None, 2, 1), [0, 0, 1]),
            ((None, -1, None, None, -2, 5, 0, None), [0, 0, 0, 1]),
        ]:
            self.assertEqual(near_counts(row), told)

    def test_counts_against_a_plain_count(self):
        for row in plain.ROWS:
            ahead = plain.greater_ahead(row)
            self.assertEqual(counts(row), [ahead[one] for one in plain.numbers_of(row)], row)

    def test_near_counts_against_a_plain_count(self):
        for row in plain.ROWS:
            ahead = plain.near(plain.greater_ahead, row)
            self.assertEqual(near_counts(row), [ahead[one] for one in plain.numbers_of(row)], row)

    def test_without_marks_both_are_the_same(self):
        for row in plain.UNMARKED:
            self.assertEqual(counts(row), near_counts(row))

    def test_24_falling_numbers(self):
        row = tuple(range(24, 0, -1))
        self.assertEqual(counts(row), list(range(24)))
        self.assertEqual(near_counts(row), list(range(24)))

    def test_lists_new_each_time(self):
        for call in (counts, near_counts):
            told = call((2, 1))
            self.assertIs(type(told), list)
            told.append(5)
            self.assertEqual(call((2, 1)), [0, 1])


class TestRowOf(unittest.TestCase):
    def test_told_rows(self):
        for numbers, many, row in [
            ((), [], ()),
            ((4,), [0], (4,)),
            ((1, 2), [0, 0], (1, 2)),
            ((1, 2), [0, 1], (2, 1)),
            ((10, 20, 30), [0, 0, 2], (20, 30, 10)),
            ((30, 10, 20), [0, 1, 0], (10, 30, 20)),
            ((-plain.HUGE, plain.HUGE, 0), [0, 1, 1], (plain.HUGE, -plain.HUGE, 0)),
        ]:
            self.assertEqual(row_of(numbers, many), row)

    def test_a_row_is_told_by_its_numbers_and_counts(self):
        for row in plain.UNMARKED:
            ahead = plain.greater_ahead(row)
            told = [ahead[one] for one in sorted(row, reverse=True)]
            self.assertEqual(row_of(row, told), row)
            self.assertEqual(row_of(tuple(sorted(row)), told), row)
            self.assertEqual(row_of(row[::-1], told), row)

    def test_each_list_of_counts_tells_another_row_with_these_counts(self):
        numbers = (-2, 8, 0, 5)
        rows = []
        for told in [[0, b, c, d] for b in range(2) for c in range(3) for d in range(4)]:
            row = row_of(numbers, told)
            ahead = dict(zip(row, counts(row)))
            self.assertEqual([ahead[one] for one in (8, 5, 0, -2)], told)
            rows.append(row)
        self.assertEqual(len(set(rows)), 24)

    def test_counts_at_both_ends_of_their_range(self):
        numbers = tuple(range(24))
        self.assertEqual(row_of(numbers, [0] * 24), numbers)
        self.assertEqual(row_of(numbers, list(range(24))), numbers[::-1])

    def test_counts_out_of_their_range(self):
        for told in [[1, 0, 0], [0, 2, 0], [0, 0, 3], [-1, 0, 0], [0, -1, 0], [0, 0, -1], [0, 1, plain.HUGE]]:
            assert_refused(self, NoCounts, row_of, (1, 2, 3), told)

    def test_lists_of_another_length(self):
        for numbers, told in [
            ((), [0]), ((1,), []), ((1,), [0, 0]), ((1, 2, 3), [0, 0]), ((1, 2, 3), [0, 0, 0, 0]),
        ]:
            assert_refused(self, NoCounts, row_of, numbers, told)

    def test_what_is_no_list_of_whole_numbers(self):
        for told in [
            (0, 0), (0, 1), "00", b"\x00\x00", None, 0, True, {}, {0: 0, 1: 1}, {0, 1}, range(2), object(),
            [0, True], [False, 0], [0, None], [None, None], ["0", "1"], [0, "1"], [0, [1]], [0, (1,)],
            [[0, 1]], [(), ()], [0, object()],
        ]:
            assert_refused(self, NoCounts, row_of, (1, 2), told)
        for told in [(), "", None, {}, set(), False]:
            assert_refused(self, NoCounts, row_of, (), told)

    def test_rows_with_marks(self):
        for row in plain.MARKED:
            assert_refused(self, Marked, row_of, row, [0] * len(plain.numbers_of(row)))

    def test_the_one_named_first_is_raised(self):
        assert_refused(self, NoRow, row_of, (1, None, 1), [0, 5, 5])
        assert_refused(self, NoRow, row_of, [1, 2], [0, 9])
        assert_refused(self, NoRow, row_of, (None, True), None)
        assert_refused(self, NoRow, row_of, (None,) * 25, None)
        assert_refused(self, Marked, row_of, (1, None), [7])
        assert_refused(self, Marked, row_of, (None,), (0,))
        assert_refused(self, Marked, row_of, (None,), None)

    def test_the_list_is_unchanged(self):
        told = [0, 1, 1]
        row_of((5, 6, 7), told)
        self.assertEqual(told, [0, 1, 1])
        wrong = [0, 5, 1]
        assert_refused(self, NoCounts, row_of, (5, 6, 7), wrong)
        self.assertEqual(wrong, [0, 5, 1])


class TestNoRow(unittest.TestCase):
    def test_what_is_no_row_is_refused(self):
        for thing in plain.NOT_ROWS:
            for call in (counts, near_counts, stretches):
                assert_refused(self, NoRow, call, thing)
            assert_refused(self, NoRow, row_of, thing, [0])

    def test_what_is_refused_is_unchanged(self):
        thing = [3, None, 1]
        for call in (counts, near_counts, stretches):
            assert_refused(self, NoRow, call, thing)
        self.assertEqual(thing, [3, None, 1])
