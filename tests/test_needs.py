import unittest
from itertools import permutations, product
from math import factorial

from shelfrows.errors import Marked, NoPlaces, NoRow, TooMany
from shelfrows.needs import needed, places, shelves, sorted_by
from shelfrows.shelves import past, past_with
from tests import plain
from tests.refusals import assert_refused

SHORT = [row for many in range(5) for row in permutations(range(-1, many - 1))]

# Rows with a number that has a greater one ahead in another stretch.
SPLIT = [
    (3, None, 1, 2), (2, None, 1), (2, None, None, 1), (None, 2, None, 1, None), (5, 0, None, 7, 1),
    (1, None, 2, None, 0), (2, 3, None, 1), (3, 2, None, 1), (None, 1, 9, None, 8),
    (plain.HUGE, None, -plain.HUGE), tuple(range(2, 24)) + (None, 1),
]


class TestPlaces(unittest.TestCase):
    def test_told_rows(self):
        for row, told in [
            ((), 0),
            ((5,), 0),
            ((None,), 0),
            ((None, None), 0),
            ((None, 5, None), 0),
            ((1, 2, 3), 0),
            ((1, None, 2, 3), 0),
            ((2, 1), 1),
            ((3, 2, 1), 2),
            ((3, 1, 2), 1),
            ((2, 3, 1), 2),
            ((2, 1, None, 5, 4, 3), 2),
            ((None, 2, 3, 1, None, None, 5, 4), 2),
            ((-1, -2), 1),
            ((plain.HUGE, 0, -plain.HUGE), 2),
        ]:
            self.assertEqual(places(row), told)
            self.assertIs(type(places(row)), int)

    def test_none_where_a_greater_one_stands_ahead_in_another_stretch(self):
        for row in SPLIT:
            self.assertIsNone(places(row), row)

    def test_as_many_sort_the_row_and_none_fewer(self):
        for row in plain.ROWS + SPLIT + plain.FALLING + plain.ONE_BEHIND:
            sort = [most for most in range(25) if plain.is_sorted(plain.light_past(row, most))]
            self.assertEqual(places(row), sort[0] if sort else None, row)

    def test_a_light_shelf_sorts_the_row_just_with_as_many(self):
        for row in plain.ROWS + SPLIT:
            told = places(row)
            for most in range(10):
                came = past(row, ("light", most))
                self.assertIs(plain.is_sorted(came), told is not None and most >= told, row)

    def test_falling_rows_need_one_place_fewer_than_they_have_numbers(self):
        for row in plain.FALLING[1:]:
            self.assertEqual(places(row), len(row) - 1)
        # So it is with more places than one shelf may have.
        self.assertEqual(places(plain.FALLING[11]), 10)
        self.assertEqual(places(plain.FALLING[24]), 23)

    def test_one_number_behind_all_needs_as_many_as_are_greater(self):
        for row in plain.ONE_BEHIND:
            self.assertEqual(places(row), len(row) - 1 - row[-1], row)

    def test_one_number_ahead_of_all_needs_one_place(self):
        for many in range(2, 25):
            self.assertEqual(places((many,) + tuple(range(1, many))), 1)


class TestShelves(unittest.TestCase):
    def test_told_rows(self):
        for row, most, told in [
            ((), 1, 0),
            ((), 9, 0),
            ((None,), 3, 0),
            ((1, 2), 1, 0),
            ((2, 1), 1, 1),
            ((2, 1), 9, 1),
            ((3, 2, 1), 1, 2),
            ((3, 2, 1), 2, 1),
            ((4, 3, 2, 1), 2, 2),
            ((2, 1, None, 6, 5, 4, 3), 2, 2),
            ((3, None, 1, 2), 1, None),
            ((3, None, 1, 2), 9, None),
            (plain.FALLING[10], 9, 1),
            (plain.FALLING[11], 9, 2),
            (plain.FALLING[19], 9, 2),
            (plain.FALLING[20], 9, 3),
            (plain.FALLING[24], 1, 23),
        ]:
            self.assertEqual(shelves(row, most), told)
            self.assertIn(type(shelves(row, most)), (int, type(None)))

    def test_as_many_sort_the_row_and_no_fewer(self):
        rows = plain.UNMARKED[::5] + plain.LONG + plain.MARKED[::7] + SPLIT + plain.FALLING
        for row in rows:
            for most in range(1, 10):
                came = row
                many = 0
                while not plain.is_sorted(came) and many < 25:
                    came = plain.light_past(came, most)
                    many += 1
                self.assertEqual(shelves(row, most), many if many < 25 else None, row)

    def test_no_shelves_sort_what_one_does_not(self):
        for row in SPLIT:
            for most in range(1, 10):
                self.assertIsNone(shelves(row, most))

    def test_of_one_place_as_many_as_places_are_needed(self):
        for row in plain.ROWS + SPLIT + plain.FALLING + plain.ONE_BEHIND:
            self.assertEqual(shelves(row, 1), places(row))


class TestSortedBy(unittest.TestCase):
    def test_told_numbers(self):
        for many, most, told in [
            (0, 0, 1), (0, 9, 1), (1, 0, 1), (1, 9, 1), (2, 0, 1), (2, 1, 2), (3, 1, 4), (3, 2, 6),
            (4, 2, 18), (10, 9, factorial(10)), (11, 9, 10 * factorial(10)), (24, 0, 1), (24, 1, 2 ** 23),
            (24, 9, factorial(10) * 10 ** 14),
        ]:
            self.assertEqual(sorted_by(many, most), told)
            self.assertIs(type(sorted_by(many, most)), int)

    def test_so_many_rows_are_sorted(self):
        for many in range(7):
            needs = [max([0, *plain.greater_ahead(row).values()]) for row in permutations(range(many))]
            for most in range(10):
                self.assertEqual(sorted_by(many, most), sum(1 for one in needs if one <= most))

    def test_so_many_rows_come_out_sorted(self):
        for numbers in [(), (3,), (-1, 4), (plain.HUGE, 0, -2), (1, 2, 3, 4), (5, 4, 0, -7, -8)]:
            for most in range(10):
                came = [past(row, ("light", most)) for row in permutations(numbers)]
                self.assertEqual(sorted_by(len(numbers), most), came.count(tuple(sorted(numbers))))

    def test_the_product(self):
        for many in range(25):
            for most in range(10):
                told = 1
                for k in range(many):
                    told *= k + 1 if k < most else most + 1
                self.assertEqual(sorted_by(many, most), told)

    def test_one_place_sorts_twice_as_many_with_each_number_more(self):
        for many in range(1, 25):
            self.assertEqual(sorted_by(many, 1), 2 ** (many - 1))


class TestNeeded(unittest.TestCase):
    def test_told_rows(self):
        for row, told in [
            ((), []),
            ((5,), [0]),
            ((1, 2, 3), [0, 0, 0]),
            ((2, 1), [1, 0]),
            ((3, 2, 1), [1, 2, 0]),
            ((3, 1, 2), [1, 1, 0]),
            ((1, 3, 2), [0, 1, 0]),
            ((2, 3, 1), [1, 2, 0]),
            ((2, 1, 4, 3), [1, 0, 1, 0]),
            ((3, 4, 1, 2), [1, 2, 2, 0]),
            ((plain.HUGE, -plain.HUGE, 0), [1, 1, 0]),
        ]:
            self.assertEqual(needed(row), told)

    def test_greater_ones_up_to_it_than_the_least_behind_it(self):
        for row in plain.UNMARKED + plain.FALLING + plain.ONE_BEHIND:
            told = [
                sum(1 for one in row[:at] if one > min(row[at:]))
                for at in range(1, len(row))
            ]
            self.assertEqual(needed(row), told + [0] * (len(row) > 0), row)

    def test_falling_rows(self):
        for row in plain.FALLING[1:]:
            self.assertEqual(needed(row), list(range(1, len(row))) + [0])

    def test_the_greatest_of_them_are_the_places_of_one_shelf(self):
        for row in plain.UNMARKED + plain.FALLING + plain.ONE_BEHIND:
            self.assertEqual(max(needed(row), default=0), places(row))

    def test_sorted_just_with_as_many_at_each_number(self):
        for row in SHORT:
            told = needed(row)
            for most in product(range(4), repeat=len(row)):
                enough = all(one >= other for one, other in zip(most, told))
                self.assertIs(plain.is_sorted(past_with(row, "light", most)), enough, (row, most))

    def test_as_many_sort_the_row_and_one_fewer_anywhere_does_not(self):
        for row in plain.UNMARKED + plain.FALLING + plain.ONE_BEHIND:
            told = needed(row)
            self.assertEqual(set(plain.counts_with(row, told).values()) - {0}, set(), row)
            for at, most in enumerate(told):
                if most > 0:
                    fewer = told[:at] + [most - 1] + told[at + 1:]
                    self.assertGreater(max(plain.counts_with(row, fewer).values()), 0, (row, at))

    def test_past_with_as_many_the_row_comes_out_sorted(self):
        for row in plain.UNMARKED + plain.FALLING + plain.ONE_BEHIND:
            told = tuple(needed(row))
            if max(told, default=0) <= 9:
                self.assertEqual(past_with(row, "light", told), tuple(sorted(row)))

    def test_lists_new_each_time(self):
        told = needed((2, 1))
        self.assertIs(type(told), list)
        told.append(5)
        self.assertEqual(needed((2, 1)), [1, 0])


class TestRefusals(unittest.TestCase):
    def test_no_row(self):
        for thing in plain.NOT_ROWS:
            assert_refused(self, NoRow, needed, thing)
            assert_refused(self, NoRow, places, thing)
            assert_refused(self, NoRow, shelves, thing, 1)

    def test_marked(self):
        for row in plain.MARKED + SPLIT:
            assert_refused(self, Marked, needed, row)

    def test_no_places(self):
        for wrong in plain.NOT_PLACES + [0]:
            for row in [(), (2, 1), (2, None, 1)]:
                assert_refused(self, NoPlaces, shelves, row, wrong)
        for wrong in plain.NOT_PLACES:
            for many in [0, 1, 24]:
                assert_refused(self, NoPlaces, sorted_by, many, wrong)

    def test_too_many(self):
        for wrong in [25, -1, plain.HUGE, -plain.HUGE, True, False, None, "3", b"3", (), (1, 2), [], {}, plain.ANY]:
            assert_refused(self, TooMany, sorted_by, wrong, 1)

    def test_the_one_named_first_is_raised(self):
        assert_refused(self, NoRow, needed, (None, 1, 1))
        assert_refused(self, NoRow, needed, [None])
        assert_refused(self, NoRow, shelves, (1, 1), 0)
        assert_refused(self, NoRow, shelves, None, None)
        assert_refused(self, TooMany, sorted_by, 25, 10)
        assert_refused(self, TooMany, sorted_by, None, None)

    def test_what_was_handed_in_is_unchanged(self):
        row, most = [3, None, 1], [1]
        assert_refused(self, NoRow, needed, row)
        assert_refused(self, NoRow, places, row)
        assert_refused(self, NoRow, shelves, row, most)
        assert_refused(self, NoPlaces, shelves, (2, 1), most)
        assert_refused(self, NoPlaces, sorted_by, 2, most)
        self.assertEqual((row, most), ([3, None, 1], [1]))
