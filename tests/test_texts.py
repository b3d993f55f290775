import re
import unittest
from itertools import product

from shelfrows.errors import NoLine, NoRow, NoText
from shelfrows.rows import is_row
from shelfrows.shelves import is_line
from shelfrows.texts import line_text, read_line, read_row, row_text
from tests import plain
from tests.refusals import assert_refused

LINES = [
    (one, other) for one in plain.SHELVES for other in plain.SHELVES[::3]
] + [(shelf,) * many for shelf in plain.SHELVES for many in range(9)]

PART = r"(?:\||0|-?[1-9][0-9]*)"
ROW_FORM = re.compile(rf"none|{PART}(?: {PART}){{0,23}}")
SHELF = "(?:light|heavy) [0-9]"
LINE_FORM = re.compile(rf"straight|{SHELF}(?:\n{SHELF}){{0,7}}")

# Signs that Python takes for digits or blanks, or that look like them.
SIGNS = [
    " ", "\n", "\t", "\r", "\x0b", "\x0c", "\x1c", "\x85", "\xa0", "\u2028", "\u3000", "\ufeff", "\x00", "-",
    "+", "_", ".", ",", "0", "7", "|", "a", "\xb2", "\u0663", "\uff15", "\u2212", "\ud800", "\u2460", "e",
]

NOT_TEXTS = [
    None, True, False, 0, 5, b"", b"none", b"1 2", b"straight", b"light 1", (), (1, 2), ("none",), [],
    ["1"], {}, {"none": 1}, set(), {"none"}, object(), str, plain.ANY, (("light", 1),),
]


def changed(text):
    """Tell all texts that come of one by one sign more, one less, or one in another's place."""
    told = {text[:at] + text[at + 1:] for at in range(len(text))}
    for sign in SIGNS:
        told.update(text[:at] + sign + text[at:] for at in range(len(text) + 1))
        told.update(text[:at] + sign + text[at + 1:] for at in range(len(text)))
    return sorted(told)


def is_row_text(text):
    words = [word for word in text.split(" ") if word != "|"]
    return ROW_FORM.fullmatch(text) is not None and len(set(words)) == len(words)


class TestRowText(unittest.TestCase):
    def test_told_rows(self):
        for row, text in [
            ((), "none"),
            ((0,), "0"),
            ((None,), "|"),
            ((None, None), "| |"),
            ((3, 1, 2), "3 1 2"),
            ((3, None, -1, 20), "3 | -1 20"),
            ((None, 5, None, None, 7, None), "| 5 | | 7 |"),
            ((-plain.HUGE, plain.HUGE), "-1" + "0" * 40 + " 1" + "0" * 40),
            (tuple(range(24)), " ".join(str(one) for one in range(24))),
        ]:
            self.assertEqual(row_text(row), text)
            self.assertEqual(read_row(text), row)
            self.assertIs(type(row_text(row)), str)

    def test_numbers_as_they_are_written_and_a_blank_between(self):
        for row in plain.ROWS:
            if row:
                words = ["|" if one is None else str(one) for one in row]
                self.assertEqual(row_text(row), " ".join(words))

    def test_numbers_of_very_many_digits(self):
        # Python itself refuses to turn more than 4300 digits into a number, or back.
        for many in (49, 50, 51, 99, 100, 101, 4300, 4301, 6000):
            row = (10 ** many, -(10 ** many) + 1, 10 ** many + 10 ** (many // 2), 3)
            nines = "-" + "9" * many
            middle = "1" + "0" * (many - many // 2 - 1) + "1" + "0" * (many // 2)
            text = " ".join(["1" + "0" * many, nines, middle, "3"])
            self.assertTrue(row_text(row) == text)
            self.assertTrue(read_row(text) == row)

    def test_numbers_around_powers_of_ten(self):
        for many in range(120):
            for near in (-1, 0, 1):
                one = 10 ** many + near
                self.assertEqual(row_text((one,)), str(one))
                self.assertEqual(row_text((-one,)), str(-one))
                self.assertEqual(read_row(str(one)), (one,))
                self.assertEqual(read_row(str(-one)), (-one,))


class TestReadRow(unittest.TestCase):
    def test_what_a_row_is_written_as_is_read_as_it(self):
        for row in plain.ROWS + plain.FALLING + plain.ONE_BEHIND:
            came = read_row(row_text(row))
            self.assertEqual(came, row)
            self.assertIs(type(came), tuple)
            self.assertEqual({type(one) for one in came} - {int, type(None)}, set())

    def test_all_short_texts(self):
        for many in range(6):
            for signs in product("01-| \n", repeat=many):
                text = "".join(signs)
                if is_row_text(text):
                    row = read_row(text)
                    self.assertTrue(is_row(row), text)
                    self.assertEqual(row_text(row), text)
                else:
                    assert_refused(self, NoText, read_row, text)

    def test_texts_with_one_sign_changed(self):
        for row in [(), (0,), (None,), (10, None, -7), (-1, 100), (None, 7, 0)]:
            for text in changed(row_text(row)):
                if is_row_text(text):
                    self.assertEqual(row_text(read_row(text)), text)
                else:
                    assert_refused(self, NoText, read_row, text)

    def test_what_no_row_is_written_as(self):
        for text in [
            "", " ", "  ", "\n", "none ", " none", "none\n", "None", "NONE", "none none", "none 1", "1 none",
            "()", "(1, 2)", "1, 2", "1,2", "1  2", " 1 2", "1 2 ", "1 2\n", "\n1 2", "1\n2", "1\t2", "1\r\n2",
            "1 2 \n", "-0", "1 -0", "00", "01", "-01", "007", "0 00", "+1", "+0", "--1", "-", "- 1", "1-",
            "1_000", "1e3", "0x1", "1.0", "1.", "one", "||", "| |  ", "|1", "1|2", "1| 2", "1 |2", "|\n",
            "1 1", "1 | 1", "0 -0", "-1 -1", "1 2 3 1", "\xb2", "\u0661", "\uff11", "1\xa02", "\u22121",
            "light 1", "straight", "True", "False", "1 True", "\ud800", "\x00", "1\x00",
        ]:
            assert_refused(self, NoText, read_row, text)

    def test_up_to_24_things_marks_counted(self):
        self.assertEqual(read_row(" ".join("|" * 24)), (None,) * 24)
        assert_refused(self, NoText, read_row, " ".join("|" * 25))
        numbers = [str(one) for one in range(25)]
        self.assertEqual(read_row(" ".join(numbers[:24])), tuple(range(24)))
        self.assertEqual(read_row(" ".join([*numbers[:23], "|"])), tuple(range(23)) + (None,))
        assert_refused(self, NoText, read_row, " ".join(numbers))
        assert_refused(self, NoText, read_row, " ".join([*numbers[:24], "|"]))


class TestLineText(unittest.TestCase):
    def test_told_lines(self):
        for line, text in [
            ((), "straight"),
            ((("light", 0),), "light 0"),
            ((("heavy", 9),), "heavy 9"),
            ((("light", 1), ("heavy", 2)), "light 1\nheavy 2"),
            ((("light", 3),) * 8, "\n".join(["light 3"] * 8)),
        ]:
            self.assertEqual(line_text(line), text)
            self.assertEqual(read_line(text), line)
            self.assertIs(type(line_text(line)), str)

    def test_a_row_for_each_shelf_and_none_behind_them(self):
        for line in LINES:
            if line:
                rows = [f"{word} {places}" for word, places in line]
                self.assertEqual(line_text(line).split("\n"), rows)


class TestReadLine(unittest.TestCase):
    def test_what_a_line_is_written_as_is_read_as_it(self):
        for line in LINES:
            came = read_line(line_text(line))
            self.assertEqual(came, line)
            self.assertIs(type(came), tuple)
            self.assertTrue(is_line(came))

    def test_texts_with_one_sign_changed(self):
        for line in [(), (("light", 0),), (("heavy", 7), ("light", 1))]:
            for text in changed(line_text(line)):
                if LINE_FORM.fullmatch(text):
                    self.assertEqual(line_text(read_line(text)), text)
                else:
                    assert_refused(self, NoText, read_line, text)

    def test_what_no_line_is_written_as(self):
        for text in [
            "", " ", "\n", "straight ", " straight", "straight\n", "\nstraight", "Straight", "straight 0",
            "straight\nlight 1", "light 1\nstraight", "straight straight", "none", "light", "heavy", "1",
            "light 10", "light -1", "light -0", "light 00", "light 01", "light +1", "light 1.0", "light one",
            "light  1", " light 1", "light 1 ", "light 1 1", "light\t1", "light\n1", "light1", "1 light",
            "Light 1", "LIGHT 1", "lights 1", "medium 1", "light |", "light light", "light ", " 1",
            "light 1\n", "\nlight 1", "light 1\n\nheavy 1", "light 1\r\nheavy 1", "light 1 \nheavy 1",
            "light 1\n heavy 1", "light 1 heavy 1", "light 1,heavy 1", "light 1\rheavy 1", "light 1\nheavy",
            "light 1\x0bheavy 1", "light 1\x1cheavy 1", "light 1\u2028heavy 1", "light \xb2", "light \u0663",
            "light\xa01", "light True", "('light', 1)", "light 1\nheavy 10", "light 72", "\ud800",
        ]:
            assert_refused(self, NoText, read_line, text)

    def test_up_to_8_shelves(self):
        for shelf in ("light 0", "heavy 9"):
            self.assertEqual(len(read_line("\n".join([shelf] * 8))), 8)
            assert_refused(self, NoText, read_line, "\n".join([shelf] * 9))
            assert_refused(self, NoText, read_line, "\n".join([shelf] * 100))


class TestRefusals(unittest.TestCase):
    def test_no_row(self):
        for thing in plain.NOT_ROWS:
            assert_refused(self, NoRow, row_text, thing)

    def test_no_line(self):
        for thing in plain.NOT_LINES + [(("light", 10),), (("light", 72),)]:
            assert_refused(self, NoLine, line_text, thing)

    def test_no_text(self):
        for thing in NOT_TEXTS:
            assert_refused(self, NoText, read_row, thing)
            assert_refused(self, NoText, read_line, thing)

    def test_what_was_handed_in_is_unchanged(self):
        row, line, words = [2, 1], [("light", 1)], ["2", "1"]
        assert_refused(self, NoRow, row_text, row)
        assert_refused(self, NoLine, line_text, line)
        assert_refused(self, NoText, read_row, words)
        assert_refused(self, NoText, read_line, words)
        self.assertEqual((row, line, words), ([2, 1], [("light", 1)], ["2", "1"]))
