import unittest
from itertools import permutations

from shelfrows.errors import Marked, NoLetting, NoPlaces, NoRow
from shelfrows.lettings import comes_out, gained, own_way
from shelfrows.shelves import past
from tests import plain
from tests.refusals import assert_refused

SHORT = [
    row
    for numbers in ((), (5,), (-3, 0), (-3, 0, plain.HUGE), (-plain.HUGE, -1, 4, 7))
    for row in permutations(numbers)
]


def lettings_of(row, places, standing=()):
    """All lettings of the row that is yet to come, while some numbers stand on the shelf."""
    told = [()] if not row and not standing else []
    for one in standing:
        left = tuple(other for other in standing if other != one)
        told += [(one, *rest) for rest in lettings_of(row, places, left)]
    if row and len(standing) <= places:
        told += [("on", *rest) for rest in lettings_of(row[1:], places, (*standing, row[0]))]
    return told


def plain_own_way(row, places):
    way, standing = [], []
    for one in row:
        way.append("on")
        standing = sorted([*standing, one])
        if len(standing) > places:
            way.append(standing[0])
            standing = standing[1:]
    return tuple(way + standing)


def counts_gained(row, came):
    before, then = plain.greater_ahead(row), plain.greater_ahead(came)
    return [before[one] - then[one] for one in row]


class TestComesOut(unittest.TestCase):
    def test_told_lettings(self):
        for row, places, letting, came in [
            ((), 0, (), ()),
            ((), 9, (), ()),
            ((5,), 0, ("on", 5), (5,)),
            ((5,), 9, ("on", 5), (5,)),
            ((2, 1), 0, ("on", 2, "on", 1), (2, 1)),
            ((2, 1), 1, ("on", 2, "on", 1), (2, 1)),
            ((2, 1), 1, ("on", "on", 1, 2), (1, 2)),
            ((2, 1), 1, ("on", "on", 2, 1), (2, 1)),
            ((3, 1, 2), 1, ("on", "on", 1, "on", 2, 3), (1, 2, 3)),
            ((3, 1, 2), 1, ("on", "on", 3, "on", 2, 1), (3, 2, 1)),
            ((1, 2, 3), 2, ("on", "on", "on", 3, 1, 2), (3, 1, 2)),
            ((1, 2, 3), 9, ("on", "on", "on", 3, 2, 1), (3, 2, 1)),
            ((-1, 0, plain.HUGE), 1, ("on", "on", 0, -1, "on", plain.HUGE), (0, -1, plain.HUGE)),
        ]:
            self.assertEqual(comes_out(row, places, letting), came)

    def test_the_numbers_as_they_are_let_off(self):
        for row in SHORT:
            for places in (0, 1, 2, 3, 9):
                for letting in lettings_of(row, places):
                    came = comes_out(row, places, letting)
                    self.assertIs(type(came), tuple)
                    self.assertEqual(came, tuple(step for step in letting if step != "on"))

    def test_all_that_is_no_letting_is_refused(self):
        for row in [(), (5,), (0, -3), (2, 1), (1, 2), (2, 3, 1), (1, 2, 3)]:
            for places in (0, 1, 2, 3, 9):
                lettings = lettings_of(row, places)
                for steps in set(permutations(("on",) * len(row) + row)) - set(lettings):
                    assert_refused(self, NoLetting, comes_out, row, places, steps)
                for letting in lettings:
                    self.assertEqual(sorted(comes_out(row, places, letting)), sorted(row))

    def test_no_more_than_places_ahead_of_each_on(self):
        for places in range(10):
            row = tuple(range(places + 2))
            # One more than places may stand, but not ahead of one that comes.
            letting = ("on",) * (places + 1) + (0, "on") + row[1:]
            self.assertEqual(comes_out(row, places, letting), row)
            assert_refused(self, NoLetting, comes_out, row, places, ("on",) * (places + 2) + row)
            self.assertEqual(comes_out(row[1:], places, ("on",) * (places + 1) + row[1:]), row[1:])

    def test_24_numbers_and_9_places(self):
        row = tuple(range(24))
        late = ("on",) * 9 + tuple(step for at in range(9, 24) for step in ("on", at)) + row[8::-1]
        self.assertEqual(comes_out(row, 9, late), row[9:] + row[8::-1])
        once = tuple(step for one in row for step in ("on", one))
        for places in range(10):
            self.assertEqual(comes_out(row, places, once), row)

    def test_what_is_no_letting_of_3_1_2(self):
        for steps in [
            (), ("on",), ("on", "on", 1, "on", 2), ("on", "on", 1, "on", 2, 3, 3),
            ("on", "on", 1, "on", 2, 3, "on"), ("on", "on", 1, "on", 2, 3, None),
            ("on", "on", 1, "on", 2, 4), ("on", "on", 1, "on", 2, 1), ("on", "on", 1, 1, "on", 2),
            ("on", "on", 1, 3, 2, "on"), (3, "on", "on", 1, "on", 2), ("on", 1, "on", 3, "on", 2),
            ("on", "on", 1, "on", "on", 3), ("on", 3, "on", 1, "on", "on"), ("on",) * 6, (3, 1, 2) * 2,
            (3, 1, 2), ("on", "on", "on", 1, 2, 3),
            ("on", "on", True, "on", 2, 3), ("on", "on", "1", "on", 2, 3), ("on", "on", b"1", "on", 2, 3),
            ("on", "on", None, "on", 2, 3), ("on", "on", (1,), "on", 2, 3), ("on", "on", [1], "on", 2, 3),
            ("on", "on", {}, "on", 2, 3), ("on", "on", object(), "on", 2, 3),
            ("on", "on", plain.ANY, "on", 2, 3), ("on", plain.ANY, 1, "on", 2, 3),
            ("on", "On", 1, "on", 2, 3), ("ON", "ON", 1, "ON", 2, 3), ("on", "on ", 1, "on", 2, 3),
            ("on", "off", 1, "on", 2, 3), ("on", "", 1, "on", 2, 3), ("on", b"on", 1, "on", 2, 3),
            ("on", True, 1, "on", 2, 3), ("on", None, 1, "on", 2, 3), ("on", ("on",), 1, "on", 2, 3),
            ("on", ["on"], 1, "on", 2, 3), (("on", "on", 1, "on", 2, 3),),
            ["on", "on", 1, "on", 2, 3], [], "on", "onon1on23", b"on", None, True, False, 0, 6, {}, set(),
            {"on": 1}, range(6), object(), plain.ANY, ("on", "on", 1, "on", 2, 3) * 100,
        ]:
            assert_refused(self, NoLetting, comes_out, (3, 1, 2), 1, steps)
            assert_refused(self, NoLetting, gained, (3, 1, 2), 1, steps)

    def test_true_and_false_are_no_numbers(self):
        assert_refused(self, NoLetting, comes_out, (1, 0), 0, ("on", True, "on", 0))
        assert_refused(self, NoLetting, comes_out, (1, 0), 0, ("on", 1, "on", False))

    def test_what_is_no_letting_of_the_empty_row(self):
        for steps in [("on",), (0,), (None,), ((),), [], "", b"", {}, set(), None, False, 0, plain.ANY]:
            for places in (0, 9):
                assert_refused(self, NoLetting, comes_out, (), places, steps)
                assert_refused(self, NoLetting, gained, (), places, steps)


class TestOwnWay(unittest.TestCase):
    def test_told_rows(self):
        for row, places, way in [
            ((), 0, ()),
            ((), 9, ()),
            ((5,), 0, ("on", 5)),
            ((5,), 1, ("on", 5)),
            ((2, 1), 0, ("on", 2, "on", 1)),
            ((2, 1), 1, ("on", "on", 1, 2)),
            ((2, 1), 2, ("on", "on", 1, 2)),
            ((3, 1, 2), 1, ("on", "on", 1, "on", 2, 3)),
            ((3, 2, 1), 1, ("on", "on", 2, "on", 1, 3)),
            ((1, 2, 3), 1, ("on", "on", 1, "on", 2, 3)),
            ((3, 1, 2), 2, ("on", "on", "on", 1, 2, 3)),
            ((3, 1, 2), 9, ("on", "on", "on", 1, 2, 3)),
        ]:
            self.assertEqual(own_way(row, places), way)

    def test_lets_off_when_more_than_places_stand_and_always_the_least(self):
        for row in plain.UNMARKED + plain.FALLING:
            for places in range(10):
                way = own_way(row, places)
                self.assertIs(type(way), tuple)
                self.assertEqual(way, plain_own_way(row, places))

    def test_it_is_a_letting(self):
        for row in SHORT:
            for places in (0, 1, 2, 3, 9):
                self.assertIn(own_way(row, places), lettings_of(row, places))

    def test_by_it_comes_out_what_comes_out_past_the_shelf(self):
        for row in plain.UNMARKED + plain.FALLING:
            for places in range(10):
                came = comes_out(row, places, own_way(row, places))
                self.assertEqual(came, past(row, ("light", places)))
                self.assertEqual(came, plain.light_past(row, places))


class TestGained(unittest.TestCase):
    def test_told_lettings(self):
        for row, places, letting, told in [
            ((), 3, (), []),
            ((5,), 3, ("on", 5), [0]),
            ((2, 1), 1, ("on", "on", 1, 2), [0, 1]),
            ((2, 1), 1, ("on", 2, "on", 1), [0, 0]),
            ((3, 1, 2), 1, ("on", "on", 1, "on", 2, 3), [0, 1, 1]),
            ((3, 1, 2), 1, ("on", "on", 3, "on", 2, 1), [0, -1, 0]),
            ((1, 2, 3), 2, ("on", "on", "on", 3, 2, 1), [-2, -1, 0]),
            ((3, 2, 1), 2, ("on", "on", "on", 1, 3, 2), [0, 0, 2]),
            (plain.FALLING[24], 9, own_way(plain.FALLING[24], 9), [*range(10), *[9] * 14]),
        ]:
            self.assertEqual(gained(row, places, letting), told)

    def test_how_much_less_each_count_is_and_by_none_more_than_places(self):
        for row in SHORT:
            for places in (0, 1, 2, 3, 9):
                for letting in lettings_of(row, places):
                    told = gained(row, places, letting)
                    came = tuple(step for step in letting if step != "on")
                    self.assertEqual(told, counts_gained(row, came))
                    self.assertLessEqual(max(told, default=0), places)

    def test_the_own_way_makes_each_count_less_by_as_much_as_can_be(self):
        for row in SHORT:
            for places in (0, 1, 2, 3, 9):
                own = gained(row, places, own_way(row, places))
                for letting in lettings_of(row, places):
                    for most, one in zip(own, gained(row, places, letting)):
                        self.assertGreaterEqual(most, one)

    def test_the_own_way_makes_each_count_less_by_places_but_not_below_0(self):
        for row in plain.UNMARKED + plain.FALLING:
            ahead = plain.greater_ahead(row)
            for places in range(10):
                told = gained(row, places, own_way(row, places))
                self.assertEqual(told, [min(ahead[one], places) for one in row])

    def test_lists_new_each_time(self):
        told = gained((2, 1), 1, ("on", "on", 1, 2))
        self.assertIs(type(told), list)
        told.append(5)
        self.assertEqual(gained((2, 1), 1, ("on", "on", 1, 2)), [0, 1])


class TestRefusals(unittest.TestCase):
    def test_no_row(self):
        for thing in plain.NOT_ROWS:
            assert_refused(self, NoRow, own_way, thing, 1)
            for call in (comes_out, gained):
                assert_refused(self, NoRow, call, thing, 1, ())
                assert_refused(self, NoRow, call, thing, 1, ("on", 1))

    def test_marked(self):
        for row in plain.MARKED:
            assert_refused(self, Marked, own_way, row, 1)
            letting = tuple(step for one in plain.numbers_of(row) for step in ("on", one))
            marked = tuple(step for one in row for step in ("on", one))
            for call in (comes_out, gained):
                assert_refused(self, Marked, call, row, 1, letting)
                assert_refused(self, Marked, call, row, 1, marked)

    def test_no_places(self):
        for wrong in plain.NOT_PLACES:
            assert_refused(self, NoPlaces, own_way, (), wrong)
            assert_refused(self, NoPlaces, own_way, (2, 1), wrong)
            for call in (comes_out, gained):
                assert_refused(self, NoPlaces, call, (), wrong, ())
                assert_refused(self, NoPlaces, call, (2, 1), wrong, ("on", 2, "on", 1))

    def test_the_one_named_first_is_raised(self):
        assert_refused(self, NoRow, own_way, (None, 1, 1), 10)
        assert_refused(self, NoRow, own_way, [None], None)
        assert_refused(self, Marked, own_way, (None,), 10)
        assert_refused(self, Marked, own_way, (2, None), None)
        for call in (comes_out, gained):
            assert_refused(self, NoRow, call, (None, 1, 1), 10, None)
            assert_refused(self, NoRow, call, [2, 1], 1, ["on"])
            assert_refused(self, Marked, call, (None,), 10, None)
            assert_refused(self, Marked, call, (2, None), 1, ["on"])
            assert_refused(self, NoPlaces, call, (2, 1), 10, None)
            assert_refused(self, NoPlaces, call, (2, 1), True, ("on",))

    def test_what_was_handed_in_is_unchanged(self):
        row, letting = [2, 1], ["on", 2, "on", 1]
        for call in (comes_out, gained):
            assert_refused(self, NoRow, call, row, 1, letting)
            assert_refused(self, NoPlaces, call, (2, 1), row, letting)
            assert_refused(self, NoLetting, call, (2, 1), 1, letting)
        self.assertEqual((row, letting), ([2, 1], ["on", 2, "on", 1]))
