import unittest

from shelfrows import errors

NAMES = [
    "NoRow", "NoShelf", "NoLine", "NoPlaces", "Marked", "NoCounts", "NoLetting", "TooMany", "NoMove",
    "NoText", "NoNumber", "Nothing",
]


class TestErrors(unittest.TestCase):
    def test_shelf_error_stands_under_value_error(self):
        self.assertEqual(errors.ShelfError.__bases__, (ValueError,))

    def test_each_other_stands_directly_under_shelf_error(self):
        for name in NAMES:
            with self.subTest(name=name):
                self.assertEqual(getattr(errors, name).__bases__, (errors.ShelfError,))

    def test_none_stands_under_another(self):
        kinds = [getattr(errors, name) for name in NAMES]
        for one in kinds:
            self.assertEqual([other for other in kinds if issubclass(one, other)], [one])

    def test_there_are_no_others(self):
        kinds = [name for name, thing in vars(errors).items() if isinstance(thing, type)]
        self.assertEqual(sorted(kinds), sorted(NAMES + ["ShelfError"]))

    def test_each_is_caught_as_any_refusal(self):
        for name in NAMES:
            with self.assertRaises(errors.ShelfError):
                raise getattr(errors, name)("why")
