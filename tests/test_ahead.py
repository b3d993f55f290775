import unittest
from itertools import permutations
from math import factorial

from shelfrows.ahead import ahead, can_come, how_many
from shelfrows.errors import Marked, NoPlaces, NoRow, TooMany
from shelfrows.needs import sorted_by
from shelfrows.shelves import past
from tests import plain
from tests.refusals import assert_refused

NUMBERS = [(), (5,), (-3, 0), (-3, 0, plain.HUGE), (-plain.HUGE, -1, 4, 7), (-2, -1, 0, 1, 2)]
RISING = [tuple(range(many)) for many in range(25)]


def rows_ahead(numbers, places):
    """Tell, for each row of some numbers, those that come to it, by the plain model."""
    told = {row: [] for row in permutations(numbers)}
    for row in permutations(sorted(numbers)):
        told[plain.light_past(row, places)].append(row)
    return told


class TestAhead(unittest.TestCase):
    def test_told_rows(self):
        for row, places, told in [
            ((), 0, [()]),
            ((), 9, [()]),
            ((5,), 0, [(5,)]),
            ((5,), 9, [(5,)]),
            ((1, 2), 0, [(1, 2)]),
            ((1, 2), 1, [(1, 2), (2, 1)]),
            ((2, 1), 0, [(2, 1)]),
            ((2, 1), 1, []),
            ((1, 2, 3), 1, [(1, 2, 3), (1, 3, 2), (2, 1, 3), (3, 1, 2)]),
            ((2, 1, 3), 1, [(2, 3, 1), (3, 2, 1)]),
            ((2, 1, 3), 2, []),
            ((3, 1, 2), 1, []),
            ((1, 2, 3), 9, list(permutations((1, 2, 3)))),
        ]:
            self.assertEqual(ahead(row, places), told)

    def test_all_rows_from_which_a_row_comes(self):
        for numbers in NUMBERS:
            for places in range(10):
                for row, told in rows_ahead(numbers, places).items():
                    self.assertEqual(ahead(row, places), told)
                    self.assertEqual(how_many(row, places), len(told))
                    self.assertIs(can_come(row, places), len(told) > 0)

    def assert_ahead(self, row, places):
        """Assert that the rows ahead are as many as told, rise, are unlike, and come to the row."""
        told = ahead(row, places)
        self.assertEqual(len(told), how_many(row, places))
        self.assertTrue(all(one < other for one, other in zip(told, told[1:])))
        for one in told:
            self.assertIs(type(one), tuple)
            self.assertEqual(past(one, ("light", places)), row)

    def test_they_rise_are_unlike_and_come_to_the_row(self):
        for row, places in [(RISING[7], 4), (RISING[6], 9), (RISING[11], 1), (RISING[7], 2)]:
            self.assert_ahead(row, places)
        for row in plain.LONG:
            for places in (1, 2, 5, 9):
                came = plain.light_past(row, places)
                if how_many(came, places) <= 3000:
                    self.assert_ahead(came, places)
                    self.assertIn(row, ahead(came, places))

    def test_without_places_there_is_but_the_row_itself(self):
        for row in plain.UNMARKED + plain.FALLING:
            self.assertEqual(ahead(row, 0), [row])
            self.assertEqual(how_many(row, 0), 1)
            self.assertIs(can_come(row, 0), True)

    def test_3000_are_told_and_more_are_too_many(self):
        self.assertEqual(how_many(RISING[7], 4), 3000)
        self.assertEqual(len(ahead(RISING[7], 4)), 3000)
        for row, places in [(RISING[13], 1), (RISING[9], 2), (RISING[7], 5), (RISING[24], 9)]:
            assert_refused(self, TooMany, ahead, row, places)
        self.assertEqual(how_many(RISING[12], 1), 2048)
        self.assertEqual(how_many(RISING[13], 1), 4096)
        self.assertEqual(len(ahead(RISING[12], 1)), 2048)

    def test_none_are_not_too_many_however_many_ways_the_greater_ones_have(self):
        for row in [RISING[24][1:] + (0,), RISING[24][1:20] + (0,) + RISING[24][20:]]:
            self.assertEqual(ahead(row, 9), [])
            self.assertEqual(how_many(row, 9), 0)

    def test_lists_new_each_time(self):
        told = ahead((1, 2), 1)
        self.assertIs(type(told), list)
        told.append(5)
        self.assertEqual(ahead((1, 2), 1), [(1, 2), (2, 1)])
        none = ahead((2, 1), 1)
        none.append(5)
        self.assertEqual(ahead((2, 1), 1), [])


class TestHowMany(unittest.TestCase):
    def test_the_product(self):
        for row in plain.UNMARKED + plain.FALLING + plain.ONE_BEHIND + RISING:
            count = plain.greater_ahead(row)
            for places in range(10):
                told = 1
                for rank, one in enumerate(sorted(row, reverse=True)):
                    can_have = [
                        many for many in range(rank + 1)
                        if (many == count[one] + places if count[one] else many <= places)
                    ]
                    told *= len(can_have)
                self.assertEqual(how_many(row, places), told)
                self.assertIs(type(how_many(row, places)), int)
                self.assertIs(can_come(row, places), told > 0)

    def test_of_rising_rows_as_many_as_are_sorted(self):
        for row in RISING:
            for places in range(10):
                self.assertEqual(how_many(row, places), sorted_by(len(row), places))
        self.assertEqual(how_many(RISING[24], 9), factorial(10) * 10 ** 14)

    def test_all_rows_of_some_numbers_are_ahead_of_one(self):
        for many in range(7):
            for places in range(10):
                self.assertEqual(
                    sum(how_many(row, places) for row in permutations(range(many))),
                    factorial(many),
                )

    def test_one_place(self):
        for many in range(2, 25):
            self.assertEqual(how_many(RISING[many], 1), 2 ** (many - 1))
            # The greatest has no choice, nor has the least, which has a count of 1.
            swapped = (1, 0) + RISING[many][2:]
            self.assertEqual(how_many(swapped, 1), 2 ** (many - 2) if many > 2 else 0)


class TestCanCome(unittest.TestCase):
    def test_told_rows(self):
        for row, places, told in [
            ((), 9, True),
            ((5,), 9, True),
            ((1, 2), 9, True),
            ((2, 1), 0, True),
            ((2, 1), 1, False),
            ((2, 1, 3), 1, True),
            ((2, 1, 3), 2, False),
            ((2, 1, 3, 4), 2, True),
            ((1, 3, 2), 1, False),
            ((2, 3, 1, 4), 1, True),
            ((2, 3, 1, 4), 2, False),
        ]:
            self.assertIs(can_come(row, places), told)

    def test_what_came_out_can_come(self):
        for row in plain.UNMARKED + plain.FALLING + plain.ONE_BEHIND:
            for places in range(10):
                self.assertIs(can_come(plain.light_past(row, places), places), True)

    def test_falling_rows_can_not(self):
        for row in plain.FALLING:
            for places in range(1, 10):
                self.assertIs(can_come(row, places), len(row) < 2)

    def test_rows_with_another_one_than_the_greatest_behind_all_can_not(self):
        for row in plain.ONE_BEHIND:
            for places in range(1, 10):
                self.assertIs(can_come(row, places), row[-1] == max(row))

    def test_rising_rows_can(self):
        for row in RISING:
            for places in range(10):
                self.assertIs(can_come(row, places), True)


class TestRefusals(unittest.TestCase):
    def test_no_row(self):
        for thing in plain.NOT_ROWS:
            for call in (how_many, ahead, can_come):
                assert_refused(self, NoRow, call, thing, 1)

    def test_marked(self):
        for row in plain.MARKED:
            for call in (how_many, ahead, can_come):
                assert_refused(self, Marked, call, row, 1)

    def test_no_places(self):
        for wrong in plain.NOT_PLACES:
            for call in (how_many, ahead, can_come):
                for row in [(), (2, 1), RISING[24]]:
                    assert_refused(self, NoPlaces, call, row, wrong)

    def test_the_one_named_first_is_raised(self):
        for call in (how_many, ahead, can_come):
            assert_refused(self, NoRow, call, (None, 1, 1), 10)
            assert_refused(self, NoRow, call, [None], None)
            assert_refused(self, Marked, call, (None,), 10)
            assert_refused(self, Marked, call, (2, None, 1), None)
            assert_refused(self, Marked, call, RISING[23] + (None,), 9)

    def test_what_was_handed_in_is_unchanged(self):
        row, places = [2, 1], [1]
        for call in (how_many, ahead, can_come):
            assert_refused(self, NoRow, call, row, places)
            assert_refused(self, NoPlaces, call, (2, 1), places)
        self.assertEqual((row, places), ([2, 1], [1]))
