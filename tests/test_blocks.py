import unittest
from itertools import combinations, permutations
from math import factorial

from shelfrows.blocks import blocks, may_mark, need_just, off, opposite
from shelfrows.errors import Marked, NoPlaces, NoRow, TooMany
from shelfrows.needs import places, sorted_by
from shelfrows.shelves import past
from tests import plain
from tests.refusals import assert_refused

SHORT = [row for many in range(6) for row in permutations(range(-2, many - 2))]

# Rows of several blocks, of which each begins above all numbers of those ahead of it.
BLOCKED = [
    (2, 1, 4, 3), (1, 3, 2, 4), (3, 1, 2, 4, 6, 5), (-5, -7, -6, 0, 2, 1), (1, 3, 2, plain.HUGE),
    tuple(range(24)),
    tuple(at + (1 if at % 2 == 0 else -1) for at in range(24)),
    tuple(3 * (at // 3) + 2 - at % 3 for at in range(24)),
    tuple(range(7, -1, -1)) + tuple(range(20, 7, -1)) + (21, 23, 22),
]

ALL = SHORT + plain.UNMARKED + plain.FALLING + plain.ONE_BEHIND + BLOCKED


def with_marks(row, ends):
    """Put marks at some places, which are told as the row has them without marks."""
    told = list(row)
    for place in sorted(ends, reverse=True):
        told.insert(place, None)
    return tuple(told)


def sorts(row):
    """Tell whether a light shelf, of however many places, sorts a row."""
    return plain.is_sorted(plain.light_past(row, 24))


class TestMayMark(unittest.TestCase):
    def test_told_rows(self):
        for row, told in [
            ((), [0]),
            ((5,), [0, 1]),
            ((1, 2), [0, 1, 2]),
            ((2, 1), [0, 2]),
            ((1, 3, 2), [0, 1, 3]),
            ((2, 1, 3), [0, 2, 3]),
            ((2, 3, 1), [0, 3]),
            ((3, 1, 2), [0, 3]),
            ((2, 1, 4, 3), [0, 2, 4]),
            ((2, 4, 1, 3), [0, 4]),
            ((-2, -1, plain.HUGE), [0, 1, 2, 3]),
        ]:
            self.assertEqual(may_mark(row), told)

    def test_just_where_some_light_shelf_still_sorts_the_row(self):
        for row in ALL:
            told = [place for place in range(len(row) + 1) if sorts(with_marks(row, [place]))]
            self.assertEqual(may_mark(row), told, row)

    def test_ahead_of_all_and_behind_all(self):
        for row in ALL:
            self.assertEqual(may_mark(row)[0], 0)
            self.assertEqual(may_mark(row)[-1], len(row))

    def test_sorted_rows_everywhere_and_falling_ones_nowhere_else(self):
        for many in range(25):
            self.assertEqual(may_mark(tuple(range(many))), list(range(many + 1)))
        for row in plain.FALLING[1:]:
            self.assertEqual(may_mark(row), [0, len(row)])

    def test_lists_new_each_time(self):
        told = may_mark((2, 1))
        self.assertIs(type(told), list)
        told.append(5)
        self.assertEqual(may_mark((2, 1)), [0, 2])


class TestBlocks(unittest.TestCase):
    def test_told_rows(self):
        for row, told in [
            ((), []),
            ((5,), [(5,)]),
            ((1, 2), [(1,), (2,)]),
            ((2, 1), [(2, 1)]),
            ((1, 3, 2), [(1,), (3, 2)]),
            ((2, 1, 4, 3), [(2, 1), (4, 3)]),
            ((3, 1, 2, 4, 6, 5), [(3, 1, 2), (4,), (6, 5)]),
            ((2, 4, 1, 3), [(2, 4, 1, 3)]),
        ]:
            self.assertEqual(blocks(row), told)

    def test_together_the_row_and_none_empty(self):
        for row in ALL:
            told = blocks(row)
            self.assertEqual([one for block in told for one in block], list(row))
            self.assertNotIn((), told)
            self.assertEqual({type(block) for block in told} - {tuple}, set())
            self.assertEqual(len(told), len(may_mark(row)) - 1)

    def test_they_stand_between_the_places_at_which_a_mark_may_be_put(self):
        for row in ALL:
            ends = [0]
            for block in blocks(row):
                ends.append(ends[-1] + len(block))
                self.assertEqual(blocks(block), [block])
            self.assertEqual(ends, may_mark(row))

    def test_a_row_needs_as_many_places_as_the_block_that_needs_most(self):
        for row in ALL:
            self.assertEqual(places(row), max([places(block) for block in blocks(row)], default=0))

    def test_so_it_does_whichever_of_these_marks_are_put(self):
        for row in SHORT + BLOCKED[:5]:
            ends = may_mark(row)
            for many in range(len(ends) + 1):
                for some in combinations(ends, many):
                    self.assertEqual(places(with_marks(row, some)), places(row), (row, some))

    def test_with_any_other_mark_no_shelf_sorts_it(self):
        for row in SHORT:
            for place in range(len(row) + 1):
                needs = places(row) if place in may_mark(row) else None
                self.assertEqual(places(with_marks(row, [place])), needs)

    def test_past_a_light_shelf_each_block_goes_by_itself(self):
        for row in ALL:
            for most in range(10):
                came = [past(block, ("light", most)) for block in blocks(row)]
                self.assertEqual(past(row, ("light", most)), tuple(one for block in came for one in block))

    def test_past_a_light_shelf_marks_between_blocks_change_nothing_else(self):
        for row in SHORT + BLOCKED[:5]:
            for most in range(10):
                came = past(with_marks(row, may_mark(row)), ("light", most))
                self.assertEqual(tuple(plain.numbers_of(came)), past(row, ("light", most)))

    def test_lists_new_each_time(self):
        told = blocks((2, 1))
        self.assertIs(type(told), list)
        told.append((5,))
        self.assertEqual(blocks((2, 1)), [(2, 1)])


class TestOff(unittest.TestCase):
    def test_told_rows(self):
        for row, told in [
            ((), 0), ((5,), 0), ((None,), 0), ((1, 2, 3), 0), ((2, 1), 1), ((3, 2, 1), 3), ((3, 1, 2), 2),
            ((3, None, 1, 2), 2), ((None, 2, None, 1, None), 1), ((1, None, 2), 0),
            ((plain.HUGE, 0, -plain.HUGE), 3), (plain.FALLING[24], 276),
        ]:
            self.assertEqual(off(row), told)
            self.assertIs(type(off(row)), int)

    def test_so_many_pairs_stand_the_wrong_way_round(self):
        for row in plain.ROWS + SHORT + BLOCKED:
            pairs = combinations(plain.numbers_of(row), 2)
            self.assertEqual(off(row), sum(1 for one, other in pairs if one > other), row)

    def test_past_a_light_shelf_less_for_each_number_by_its_count_or_places(self):
        for row in plain.UNMARKED + SHORT:
            for most in range(10):
                less = sum(min(count, most) for count in plain.greater_ahead(row).values())
                self.assertEqual(off(row) - off(past(row, ("light", most))), less)

    def test_a_row_and_its_opposite_are_off_by_all_pairs(self):
        for row in plain.ROWS:
            many = len(plain.numbers_of(row))
            self.assertEqual(off(row) + off(opposite(row)), many * (many - 1) // 2)


class TestOpposite(unittest.TestCase):
    def test_told_rows(self):
        for row, told in [
            ((), ()),
            ((0,), (0,)),
            ((None,), (None,)),
            ((5, -3), (-5, 3)),
            ((3, None, 0, None, None, -plain.HUGE), (-3, None, 0, None, None, plain.HUGE)),
            ((None, 1, None), (None, -1, None)),
        ]:
            self.assertEqual(opposite(row), told)
            self.assertIs(type(opposite(row)), tuple)

    def test_each_number_s_opposite_and_marks_as_they_stand(self):
        for row in plain.ROWS:
            self.assertEqual(opposite(row), plain.opposite_of(row))
            self.assertEqual(opposite(opposite(row)), row)

    def test_past_a_heavy_shelf_as_the_opposite_past_a_light_one(self):
        for row in plain.ROWS:
            for most in range(10):
                came = past(opposite(row), ("light", most))
                self.assertEqual(past(row, ("heavy", most)), opposite(came))
                came = past(opposite(row), ("heavy", most))
                self.assertEqual(past(row, ("light", most)), opposite(came))


class TestNeedJust(unittest.TestCase):
    def test_told_numbers(self):
        for many, most, told in [
            (0, 0, 1), (0, 1, 0), (0, 9, 0), (1, 0, 1), (1, 1, 0), (2, 0, 1), (2, 1, 1), (2, 2, 0),
            (3, 0, 1), (3, 1, 3), (3, 2, 2), (3, 3, 0), (4, 1, 7), (4, 2, 10), (4, 3, 6), (24, 0, 1),
            (24, 1, 2 ** 23 - 1), (24, 9, factorial(10) * 10 ** 14 - factorial(9) * 9 ** 15),
        ]:
            self.assertEqual(need_just(many, most), told)
            self.assertIs(type(need_just(many, most)), int)

    def test_so_many_rows_need_just_so_many_places(self):
        for many in range(7):
            needs = [max([0, *plain.greater_ahead(row).values()]) for row in permutations(range(many))]
            for most in range(10):
                self.assertEqual(need_just(many, most), needs.count(most))

    def test_those_sorted_less_those_sorted_by_one_place_fewer(self):
        for many in range(25):
            for most in range(1, 10):
                told = sorted_by(many, most) - sorted_by(many, most - 1)
                self.assertEqual(need_just(many, most), told)
            self.assertEqual(need_just(many, 0), 1)

    def test_of_up_to_10_numbers_all_together_are_all_rows(self):
        for many in range(11):
            together = sum(need_just(many, most) for most in range(10))
            self.assertEqual(together, factorial(many))


class TestRefusals(unittest.TestCase):
    def test_no_row(self):
        for thing in plain.NOT_ROWS:
            for call in (may_mark, blocks, off, opposite):
                assert_refused(self, NoRow, call, thing)

    def test_marked(self):
        for row in plain.MARKED:
            for call in (may_mark, blocks):
                assert_refused(self, Marked, call, row)

    def test_too_many(self):
        for wrong in plain.NOT_WHOLES + [25, -1, plain.HUGE, -plain.HUGE]:
            for most in (0, 1, 9):
                assert_refused(self, TooMany, need_just, wrong, most)

    def test_no_places(self):
        for wrong in plain.NOT_PLACES:
            for many in (0, 1, 24):
                assert_refused(self, NoPlaces, need_just, many, wrong)

    def test_the_one_named_first_is_raised(self):
        for call in (may_mark, blocks):
            assert_refused(self, NoRow, call, (None, 1, 1))
            assert_refused(self, NoRow, call, [None])
        assert_refused(self, TooMany, need_just, 25, 10)
        assert_refused(self, TooMany, need_just, None, None)
        assert_refused(self, TooMany, need_just, True, False)

    def test_what_was_handed_in_is_unchanged(self):
        row, most = [2, 1], [1]
        for call in (may_mark, blocks, off, opposite):
            assert_refused(self, NoRow, call, row)
        assert_refused(self, NoPlaces, need_just, 2, most)
        self.assertEqual((row, most), ([2, 1], [1]))
