import unittest
from itertools import permutations

from shelfrows.errors import Marked, NoMove, NoRow
from shelfrows.mending import mended, move
from shelfrows.needs import places
from tests import plain
from tests.refusals import assert_refused

# Rows without marks that no move mends: all that is out of order cannot be mended at once.
NOT_MENDED = [
    (2, 1, 4, 3), (4, 3, 9, 7, 12, 11), (-1, -2, 0, plain.HUGE, 5), (3, 2, 1, 6, 5, 4),
    tuple(at + (1 if at % 2 == 0 else -1) for at in range(24)),
]


def plain_move(row, one, other):
    row = list(row)
    row.insert(other, row.pop(one))
    return tuple(row)


def need_of(row):
    return max([0, *plain.greater_ahead(row).values()])


def plain_mended(row):
    """Tell the least of (places, from, to) over all moves, if its places are fewer than now."""
    moves = [
        (need_of(plain_move(row, one, other)), one, other)
        for one in range(len(row))
        for other in range(len(row))
    ]
    if not moves or min(moves)[0] >= need_of(row):
        return None
    then, one, other = min(moves)
    return (one, other, then)


class TestMove(unittest.TestCase):
    def test_told_moves(self):
        for row, one, other, told in [
            ((5,), 0, 0, (5,)),
            ((1, 2), 0, 1, (2, 1)),
            ((1, 2), 1, 0, (2, 1)),
            ((1, 2, 3), 0, 2, (2, 3, 1)),
            ((1, 2, 3), 2, 0, (3, 1, 2)),
            ((1, 2, 3), 0, 1, (2, 1, 3)),
            ((4, 1, 2, 3), 0, 2, (1, 2, 4, 3)),
            ((4, 1, 2, 3), 3, 1, (4, 3, 1, 2)),
            ((0, plain.HUGE, -1), 2, 1, (0, -1, plain.HUGE)),
        ]:
            self.assertEqual(move(row, one, other), told)
            self.assertIs(type(move(row, one, other)), tuple)

    def test_the_number_stands_at_the_other_place_and_what_is_left_as_it_stood(self):
        for row in plain.UNMARKED:
            for one in range(len(row)):
                for other in range(len(row)):
                    came = move(row, one, other)
                    self.assertEqual(came[other], row[one])
                    self.assertEqual(
                        came[:other] + came[other + 1:], row[:one] + row[one + 1:], (row, one, other)
                    )

    def test_to_its_own_place_and_back_again_the_row_is_as_it_was(self):
        for row in plain.UNMARKED[::3] + plain.LONG:
            for one in range(len(row)):
                self.assertEqual(move(row, one, one), row)
                for other in range(len(row)):
                    self.assertEqual(move(move(row, one, other), other, one), row)


class TestMended(unittest.TestCase):
    def test_told_rows(self):
        for row, told in [
            ((2, 1), (0, 1, 0)),
            ((3, 1, 2), (0, 2, 0)),
            ((2, 3, 1), (2, 0, 0)),
            ((3, 2, 1), (0, 2, 1)),
            ((1, 3, 2), (1, 2, 0)),
            ((2, 1, 3), (0, 1, 0)),
            ((1, 2, 3, 0), (3, 0, 0)),
            ((4, 5, 3, 2, 1), (0, 4, 3)),
            ((2, 4, 1, 3), (0, 2, 1)),
            ((plain.HUGE, 0, -plain.HUGE), (0, 2, 1)),
        ]:
            self.assertEqual(mended(row), told)

    def test_of_all_moves_the_one_behind_which_it_needs_fewest_places(self):
        rows = [row for many in range(7) for row in permutations(range(-2, many - 2))]
        for row in rows + plain.UNMARKED + plain.FALLING + plain.ONE_BEHIND[::7]:
            self.assertEqual(mended(row), plain_mended(row), row)

    def test_of_several_the_first_as_tuples_rise(self):
        for row, told in [
            ((2, 1), [(0, 1), (1, 0)]),
            ((1, 2, 4, 3, 5), [(2, 3), (3, 2)]),
            ((3, 2, 1), [(0, 2), (1, 2), (2, 0), (2, 1)]),
            ((4, 3, 2, 1), [(0, 3), (1, 3), (3, 0)]),
            ((2, 4, 1, 3), [(0, 2), (1, 3), (2, 0)]),
        ]:
            for one, other in told:
                self.assertEqual(need_of(plain_move(row, one, other)), mended(row)[2], (row, one, other))
            self.assertEqual(mended(row)[:2], min(told))

    def test_a_number_that_is_out_of_order_alone_is_put_where_it_belongs(self):
        for many in range(2, 25):
            rising = tuple(range(many))
            self.assertEqual(mended(rising[1:] + (0,))[2], 0)
            self.assertEqual(mended((many,) + rising[:-1])[2], 0)

    def test_none_where_no_move_mends(self):
        for row in NOT_MENDED:
            self.assertIsNone(mended(row), row)

    def test_none_just_where_each_move_needs_as_many_at_least(self):
        for row in plain.UNMARKED + NOT_MENDED:
            fewer = any(
                places(move(row, one, other)) < places(row)
                for one in range(len(row))
                for other in range(len(row))
            )
            self.assertIs(mended(row) is not None, fewer, row)

    def test_sorted_rows_need_none(self):
        for many in range(25):
            self.assertIsNone(mended(tuple(range(many))))
        for row in [(), (5,), (-plain.HUGE, 0, plain.HUGE)]:
            self.assertIsNone(mended(row))

    def test_the_places_are_those_that_the_moved_row_needs(self):
        for row in plain.UNMARKED:
            told = mended(row)
            if told is not None:
                self.assertIs(type(told), tuple)
                self.assertEqual([type(one) for one in told], [int, int, int])
                one, other, then = told
                self.assertEqual(places(move(row, one, other)), then)
                self.assertLess(then, places(row))

    def test_falling_rows_are_mended_by_one_place(self):
        for row in plain.FALLING[2:]:
            self.assertEqual(mended(row)[2], len(row) - 2)


class TestRefusals(unittest.TestCase):
    def test_no_row(self):
        for thing in plain.NOT_ROWS:
            assert_refused(self, NoRow, move, thing, 0, 0)
            assert_refused(self, NoRow, mended, thing)

    def test_marked(self):
        for row in plain.MARKED:
            assert_refused(self, Marked, move, row, 0, 0)
            assert_refused(self, Marked, mended, row)

    def test_no_move(self):
        for row in [(), (5,), (2, 1), plain.LONG[3]]:
            wrong_things = plain.NOT_WHOLES + [-1, -len(row), len(row), len(row) + 1, plain.HUGE, -plain.HUGE]
            for wrong in wrong_things:
                if row and wrong == 0 and type(wrong) is int:
                    continue
                assert_refused(self, NoMove, move, row, wrong, 0)
                assert_refused(self, NoMove, move, row, 0, wrong)
                assert_refused(self, NoMove, move, row, wrong, wrong)

    def test_a_row_without_numbers_has_no_places(self):
        for one in (0, 1, -1):
            assert_refused(self, NoMove, move, (), one, one)

    def test_true_and_false_are_no_places(self):
        assert_refused(self, NoMove, move, (2, 1), True, 0)
        assert_refused(self, NoMove, move, (2, 1), 1, False)

    def test_the_one_named_first_is_raised(self):
        assert_refused(self, NoRow, move, (None, 1, 1), 9, None)
        assert_refused(self, NoRow, move, [2, 1], 0, 1)
        assert_refused(self, NoRow, mended, (None, 1, 1))
        assert_refused(self, NoRow, mended, [None])
        assert_refused(self, Marked, move, (None,), 1, 1)
        assert_refused(self, Marked, move, (2, None, 1), None, "0")

    def test_what_was_handed_in_is_unchanged(self):
        row, place = [2, 1], [0]
        assert_refused(self, NoRow, move, row, place, place)
        assert_refused(self, NoMove, move, (2, 1), place, 0)
        assert_refused(self, NoRow, mended, row)
        self.assertEqual((row, place), ([2, 1], [0]))
