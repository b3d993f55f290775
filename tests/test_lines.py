import unittest

from shelfrows.errors import NoLine, NoNumber, Nothing
from shelfrows.lines import Line
from shelfrows.texts import row_text
from tests import plain
from tests.refusals import assert_refused

LINES = [
    (),
    (("light", 0),),
    (("heavy", 0),),
    (("light", 1),),
    (("heavy", 2),),
    (("light", 9),),
    (("light", 1), ("light", 1)),
    (("light", 1), ("heavy", 1)),
    (("heavy", 1), ("light", 2)),
    (("light", 0), ("heavy", 1), ("heavy", 0)),
    (("light", 2), ("heavy", 1), ("light", 1)),
    (("heavy", 1), ("light", 0), ("heavy", 1), ("light", 1), ("heavy", 3)),
    (("light", 1), ("heavy", 1)) * 4,
    (("heavy", 9), ("light", 9)) * 4,
]

MARK = ("mark",)
FINISH = ("finish",)
NUMBERS = (2, -1, plain.HUGE, 0)


def plain_run(shelves, calls):
    """Tell what stands, what came out, and what of it by the last call, one number at a time."""
    standing = [[] for _ in shelves]
    out = []

    def put(number, at):
        if at == len(shelves):
            out.append(number)
            return
        standing[at] = sorted([*standing[at], number])
        if len(standing[at]) > shelves[at][1]:
            go_on(at)

    def go_on(at):
        put(standing[at].pop(0 if shelves[at][0] == "light" else -1), at + 1)

    ahead = 0
    for name, *handed in calls:
        ahead = len(out)
        if name == "come":
            put(handed[0], 0)
            continue
        for at in range(len(shelves)):
            while standing[at]:
                go_on(at)
        if name == "mark":
            out.append(None)
    return standing, tuple(out), out[ahead:]


def do(line, call):
    name, *handed = call
    return getattr(line, name)(*handed)


def told_of(line):
    return (line.standing(), line.out(), len(line), str(line))


def built(shelves, calls):
    line = Line(shelves)
    for call in calls:
        do(line, call)
    return line


def long_calls(many):
    """Tell calls with many numbers, and now and then a mark or an end."""
    calls = []
    for at in range(many):
        calls.append(("come", at * 37 % 211 + (at // 211) * 1000 - 90))
        if at % 13 == 7:
            calls.append(MARK)
        if at % 31 == 20:
            calls.extend([FINISH, MARK, FINISH])
    return calls


class TestCalls(unittest.TestCase):
    def test_told_calls(self):
        line = Line((("light", 1), ("heavy", 1)))
        for call, came, standing in [
            (("come", 3), [], [[3], []]),
            (("come", 1), [], [[3], [1]]),
            (("come", 2), [2], [[3], [1]]),
            (("mark",), [3, 1, None], [[], []]),
            (("come", 5), [], [[5], []]),
            (("come", 7), [], [[7], [5]]),
            (("finish",), [7, 5], [[], []]),
            (("finish",), [], [[], []]),
            (("mark",), [None], [[], []]),
        ]:
            self.assertEqual(do(line, call), came)
            self.assertEqual(line.standing(), standing)
        self.assertEqual(line.out(), (2, 3, 1, None, 7, 5, None))

    def test_a_line_without_shelves(self):
        line = Line(())
        self.assertEqual(line.come(5), [5])
        self.assertEqual(line.mark(), [None])
        self.assertEqual(line.come(3), [3])
        self.assertEqual(line.finish(), [])
        self.assertEqual(told_of(line), ([], (5, None, 3), 0, "5 | 3"))
        self.assertEqual([line.back() for _ in range(4)], ["finish", "come", "mark", "come"])
        self.assertEqual(told_of(line), ([], (), 0, "none"))

    def test_shelves_without_places(self):
        line = Line((("light", 0), ("heavy", 0), ("light", 0)))
        self.assertEqual(line.come(5), [5])
        self.assertEqual(line.come(3), [3])
        self.assertEqual(line.mark(), [None])
        self.assertEqual(line.finish(), [])
        self.assertEqual(told_of(line), ([[], [], []], (5, 3, None), 0, "5 3 |"))

    def test_a_light_shelf_lets_on_the_least_and_a_heavy_one_the_greatest(self):
        light, heavy = Line((("light", 2),)), Line((("heavy", 2),))
        for number in (5, 8, 2, 7):
            light_came, heavy_came = light.come(number), heavy.come(number)
        self.assertEqual((light_came, heavy_came), ([5], [7]))
        self.assertEqual((light.out(), heavy.out()), ((2, 5), (8, 7)))
        self.assertEqual((light.standing(), heavy.standing()), ([[7, 8]], [[2, 5]]))
        self.assertEqual((light.finish(), heavy.finish()), ([7, 8], [5, 2]))

    def test_a_mark_empties_one_shelf_behind_the_other(self):
        # What comes from the first one still passes the second, and sends on what stands there.
        line = built((("heavy", 2), ("light", 1)), [("come", 1), ("come", 4), ("come", 9)])
        self.assertEqual(line.standing(), [[1, 4], [9]])
        self.assertEqual(line.mark(), [4, 1, 9, None])
        line = built((("light", 2), ("heavy", 1)), [("come", 4), ("come", 9), ("come", 1)])
        self.assertEqual(line.standing(), [[4, 9], [1]])
        self.assertEqual(line.finish(), [4, 9, 1])

    def test_lines_at_first(self):
        for shelves in LINES:
            self.assertEqual(told_of(Line(shelves)), ([[] for _ in shelves], (), 0, "none"))

    def test_many_calls(self):
        for shelves in LINES:
            line = Line(shelves)
            calls = long_calls(90)
            for many, call in enumerate(calls, 1):
                came = do(line, call)
                standing, out, last = plain_run(shelves, calls[:many])
                self.assertEqual(came, last)
                self.assertEqual(line.standing(), standing)
                self.assertEqual(line.out(), out)

    def test_all_together_emptied_at_the_end_is_the_row_past_the_line(self):
        for shelves in LINES:
            for row in plain.ROWS[::4] + plain.LONG:
                line = Line(shelves)
                came = [one for part in row for one in (line.mark() if part is None else line.come(part))]
                came += line.finish()
                self.assertEqual(tuple(came), plain.line_past(row, shelves))
                self.assertEqual(line.out(), tuple(came))
                self.assertEqual(len(line), 0)

    def test_more_than_24_numbers(self):
        line = Line((("light", 9),) * 8)
        for number in range(300, 0, -1):
            line.come(number)
        self.assertEqual(len(line), 72)
        self.assertEqual(line.out(), tuple(range(228, 0, -1)))
        line.finish()
        self.assertEqual(line.out()[228:], tuple(range(229, 301)))
        self.assertEqual(str(line), " ".join(str(one) for one in line.out()))

    def test_kinds_and_lists_new_each_time(self):
        line = Line((("light", 1), ("heavy", 1)))
        for call in [("come", 3), ("come", 1), ("come", 2), ("mark",), ("come", 4), ("finish",)]:
            came = do(line, call)
            self.assertIs(type(came), list)
            before = told_of(line)
            came.append(77)
            for told in [line.standing(), line.standing()]:
                self.assertEqual([type(told)] + [type(one) for one in told], [list] * 3)
                told[0].append(78)
                told.append([79])
            self.assertIs(type(line.out()), tuple)
            self.assertIs(type(str(line)), str)
            self.assertEqual(told_of(line), before)
        self.assertEqual(line.out(), (2, 3, 1, None, 4))


class TestBack(unittest.TestCase):
    def walk(self, line, shelves, calls, depth):
        """Do every call there is, go on from it, take it back, and do it once more."""
        state = told_of(line)
        standing, out, _ = plain_run(shelves, calls)
        self.assertEqual(state[:2], (standing, out))
        self.assertEqual(state[2], sum(len(one) for one in standing))
        there = [call[1] for call in calls if call[0] == "come"]
        for number in there:
            assert_refused(self, NoNumber, line.come, number)
        if depth == 0:
            return
        for call in [("come", one) for one in NUMBERS if one not in there] + [MARK, FINISH]:
            came = do(line, call)
            self.assertEqual(came, plain_run(shelves, [*calls, call])[2])
            self.walk(line, shelves, [*calls, call], depth - 1)
            then = told_of(line)
            self.assertEqual(line.back(), call[0])
            self.assertEqual(told_of(line), state)
            self.assertEqual(do(line, call), came)
            self.assertEqual(told_of(line), then)
            self.assertEqual(line.back(), call[0])
            self.assertEqual(told_of(line), state)

    def test_each_call_taken_back_leaves_the_line_as_it_was_and_called_again_all_is_as_before(self):
        for shelves in LINES:
            line = Line(shelves)
            self.walk(line, shelves, [], 3)
            assert_refused(self, Nothing, line.back)

    def test_deeper_on_two_lines(self):
        for shelves in [(("light", 1), ("heavy", 1)), (("heavy", 2), ("light", 1))]:
            self.walk(Line(shelves), shelves, [], 5)

    def test_many_calls_the_last_one_first(self):
        for shelves in LINES:
            line = Line(shelves)
            calls = long_calls(90)
            states = []
            for call in calls:
                states.append(told_of(line))
                do(line, call)
            last = told_of(line)
            for call, state in zip(reversed(calls), reversed(states)):
                self.assertEqual(line.back(), call[0])
                self.assertEqual(told_of(line), state)
            assert_refused(self, Nothing, line.back)
            for call in calls:
                do(line, call)
            self.assertEqual(told_of(line), last)

    def test_calls_that_only_tell_and_refused_ones_are_not_taken_back(self):
        line = built((("light", 1),), [("come", 3), ("come", 5), MARK])
        told_of(line)
        self.assertTrue(line == line.twin())
        for wrong in (3, 5, None, True, "7"):
            assert_refused(self, NoNumber, line.come, wrong)
        self.assertEqual(line.back(), "mark")
        for wrong in (3, 5, None):
            assert_refused(self, NoNumber, line.come, wrong)
        self.assertEqual(told_of(line), ([[5]], (3,), 1, "3"))
        self.assertEqual(line.back(), "come")
        assert_refused(self, NoNumber, line.come, 3)
        self.assertEqual(line.back(), "come")
        for _ in range(3):
            assert_refused(self, Nothing, line.back)
        self.assertEqual(told_of(line), ([[]], (), 0, "none"))

    def test_an_end_and_a_mark_are_calls_also_where_nothing_stands(self):
        line = Line((("light", 3),))
        self.assertEqual(line.finish(), [])
        self.assertEqual(line.mark(), [None])
        self.assertEqual(line.finish(), [])
        self.assertEqual([line.back(), line.back(), line.back()], ["finish", "mark", "finish"])
        assert_refused(self, Nothing, line.back)
        self.assertEqual(line.out(), ())

    def test_a_number_whose_call_is_taken_back_may_come_again(self):
        line = Line((("light", 1),))
        line.come(3)
        line.back()
        self.assertEqual(line.come(3), [])
        line.come(5)
        line.finish()
        line.back()
        # Only the end was taken back, so both numbers are still there.
        for number in (3, 5):
            assert_refused(self, NoNumber, line.come, number)
        line.back()
        assert_refused(self, NoNumber, line.come, 3)
        self.assertEqual(line.come(5), [3])

    def test_what_was_told_ahead_is_not_changed_by_it(self):
        line = built((("light", 1),), [("come", 3), ("come", 5)])
        standing, came, out = line.standing(), line.finish(), line.out()
        line.back()
        line.come(9)
        self.assertEqual((standing, came, out), ([[5]], [5], (3, 5)))


class TestTwin(unittest.TestCase):
    def test_a_twin_is_as_the_line_is(self):
        for shelves in LINES:
            calls = long_calls(40)
            for many in range(0, len(calls), 5):
                line = built(shelves, calls[:many])
                twin = line.twin()
                self.assertIs(type(twin), Line)
                self.assertIsNot(twin, line)
                self.assertEqual(told_of(twin), told_of(line))
                self.assertTrue(twin == line)

    def test_what_the_one_does_is_none_of_the_other_s(self):
        for shelves in LINES:
            calls = long_calls(40)
            for changes in [[("come", 5000)], [("come", 5000), ("come", -5000)], [MARK], [FINISH], [FINISH, MARK]]:
                line = built(shelves, calls[:20])
                twin = line.twin()
                state = told_of(line)
                for call in changes:
                    do(twin, call)
                self.assertEqual(told_of(line), state)
                self.assertEqual(told_of(twin)[:2], plain_run(shelves, calls[:20] + changes)[:2])
                for call in calls[20:]:
                    do(line, call)
                self.assertEqual(told_of(line)[:2], plain_run(shelves, calls)[:2])
                self.assertEqual(told_of(twin)[:2], plain_run(shelves, calls[:20] + changes)[:2])

    def test_nothing_done_ahead_of_it_can_be_taken_back_there(self):
        line = built((("light", 1),), [("come", 3), ("come", 5), MARK])
        twin = line.twin()
        state = told_of(twin)
        assert_refused(self, Nothing, twin.back)
        self.assertEqual(told_of(twin), state)
        twin.come(8)
        self.assertEqual(twin.back(), "come")
        assert_refused(self, Nothing, twin.back)
        self.assertEqual(told_of(twin), state)
        # The line itself still can.
        self.assertEqual([line.back(), line.back(), line.back()], ["mark", "come", "come"])
        assert_refused(self, Nothing, line.back)
        self.assertEqual(told_of(twin), state)

    def test_calls_taken_back_in_the_line_are_not_in_the_twin(self):
        line = built((("light", 2), ("heavy", 1)), [("come", 3), ("come", 5), ("come", 4)])
        twin = line.twin()
        line.back()
        line.back()
        self.assertEqual(told_of(twin), ([[4, 5], [3]], (), 3, "none"))
        for number in (3, 4, 5):
            assert_refused(self, NoNumber, twin.come, number)
        self.assertEqual(line.come(4), [])
        self.assertEqual(line.come(5), [])
        self.assertTrue(line == twin)

    def test_numbers_of_the_one_may_come_to_the_other(self):
        line = built((("light", 1),), [("come", 3)])
        twin = line.twin()
        twin.come(4)
        line.come(4)
        self.assertTrue(line == twin)
        assert_refused(self, NoNumber, line.come, 4)
        assert_refused(self, NoNumber, twin.come, 3)

    def test_twins_of_twins(self):
        line = built((("heavy", 1),), [("come", 3), ("come", 5)])
        first = line.twin()
        first.come(1)
        second = first.twin()
        second.finish()
        self.assertEqual([one.out() for one in (line, first, second)], [(5,), (5, 3), (5, 3, 1)])
        self.assertEqual([second.back(), first.back(), line.back()], ["finish", "come", "come"])
        self.assertEqual([one.out() for one in (line, first, second)], [(), (5,), (5, 3)])


class TestEqual(unittest.TestCase):
    def assert_equal(self, one, other, equal):
        self.assertIs(one == other, equal)
        self.assertIs(other == one, equal)
        self.assertIs(one != other, not equal)
        self.assertIs(other != one, not equal)

    def test_behind_the_same_calls(self):
        for shelves in LINES:
            for calls in ([], [("come", 3)], long_calls(30)):
                self.assert_equal(built(shelves, calls), built(tuple(list(shelves)), calls), True)

    def test_a_line_equals_itself(self):
        line = built((("light", 1),), [("come", 3)])
        self.assertTrue(line == line)
        self.assertFalse(line != line)

    def test_other_shelves(self):
        # Also of shelves that do the same to all rows.
        for at, one in enumerate(LINES):
            for other in LINES[at + 1:]:
                self.assert_equal(Line(one), Line(other), False)
        one, other = (("light", 1), ("light", 2)), (("light", 2), ("light", 1))
        self.assert_equal(built(one, [("come", 3), FINISH]), built(other, [("come", 3), FINISH]), False)

    def test_other_numbers_on_the_shelves(self):
        shelves = (("light", 2), ("heavy", 2))
        one = built(shelves, [("come", 3), ("come", 4)])
        self.assert_equal(one, built(shelves, [("come", 3)]), False)
        self.assert_equal(one, built(shelves, [("come", 3), ("come", 5)]), False)
        self.assert_equal(one, built(shelves, [("come", 3), ("come", 4), ("come", 5)]), False)

    def test_what_came_out_marks_too(self):
        shelves = (("light", 1),)
        one = built(shelves, [("come", 3), FINISH])
        self.assert_equal(one, built(shelves, [("come", 3), MARK]), False)
        self.assert_equal(one, built(shelves, [MARK, ("come", 3), FINISH]), False)
        self.assert_equal(one, built(shelves, [("come", 4), FINISH]), False)
        self.assert_equal(one, Line(shelves), False)
        self.assert_equal(built(shelves, [MARK]), built(shelves, [MARK, MARK]), False)
        turned = built(shelves, [("come", 4), FINISH, ("come", 3), FINISH])
        self.assert_equal(built(shelves, [("come", 3), FINISH, ("come", 4), FINISH]), turned, False)

    def test_by_other_calls_to_the_same(self):
        shelves = (("light", 2), ("heavy", 1))
        one = built(shelves, [("come", 3), ("come", 4)])
        self.assert_equal(one, built(shelves, [("come", 4), ("come", 3)]), True)
        self.assert_equal(one, built(shelves, [FINISH, ("come", 4), ("come", 3)]), True)
        other = built(shelves, [("come", 3), ("come", 4), ("come", 5)])
        other.back()
        self.assert_equal(one, other, True)
        # What can be taken back is not asked for.
        self.assert_equal(one, one.twin(), True)

    def test_a_line_equals_nothing_else(self):
        line = built((("light", 1),), [("come", 3), ("come", 4), ("come", 5), FINISH])
        for thing in [
            None, 0, 1, True, False, "", str(line), b"", (), line.out(), (("light", 1),), [], line.standing(),
            {}, set(), object(), Line, plain.ANY, ((("light", 1),), [[]], (3, 4, 5)),
        ]:
            self.assertIs(line == thing, False)
            self.assertIs(line != thing, True)
            self.assertIs(Line(()) == thing, False)

    def test_asking_changes_nothing(self):
        one = built((("light", 1), ("heavy", 1)), [("come", 3), ("come", 4)])
        state = told_of(one)
        self.assert_equal(one, Line(()), False)
        self.assert_equal(one, one.twin(), True)
        self.assertEqual(told_of(one), state)
        self.assertEqual(one.back(), "come")


class TestLengthAndText(unittest.TestCase):
    def test_the_length_is_how_many_numbers_stand_on_shelves(self):
        line = Line((("light", 2), ("heavy", 1)))
        lengths = []
        for call in [("come", 3), ("come", 4), ("come", 5), ("come", 6), MARK, ("come", 7), FINISH]:
            do(line, call)
            lengths.append(len(line))
        self.assertEqual(lengths, [1, 2, 3, 3, 0, 1, 0])

    def test_the_text_is_that_of_the_row_that_came_out(self):
        for shelves in LINES:
            for row in plain.ROWS[::5]:
                line = built(shelves, [MARK if one is None else ("come", one) for one in row])
                self.assertEqual(str(line), row_text(line.out()))

    def test_told_texts(self):
        line = Line((("light", 1),))
        texts = [str(line)]
        for call in [("come", -3), ("come", plain.HUGE), MARK, FINISH, ("come", 0), FINISH]:
            do(line, call)
            texts.append(str(line))
        huge = "1" + "0" * 40
        self.assertEqual(texts, [
            "none", "none", "-3", f"-3 {huge} |", f"-3 {huge} |", f"-3 {huge} |", f"-3 {huge} | 0",
        ])

    def test_the_text_of_more_than_a_row_may_have(self):
        line = Line(())
        for number in range(30):
            line.come(number)
            line.mark()
        self.assertEqual(str(line), " ".join(f"{number} |" for number in range(30)))


class TestRefusals(unittest.TestCase):
    def test_no_line(self):
        for thing in plain.NOT_LINES:
            assert_refused(self, NoLine, Line, thing)

    def test_no_number(self):
        for shelves in LINES:
            calls = [("come", 1), ("come", 0), MARK, ("come", 8)]
            line = built(shelves, calls)
            state = told_of(line)
            for wrong in plain.NOT_WHOLES + [1, 0, 8]:
                assert_refused(self, NoNumber, line.come, wrong)
                self.assertEqual(told_of(line), state)
                self.assertTrue(line == built(shelves, calls))
            self.assertEqual([line.back() for _ in range(4)], ["come", "mark", "come", "come"])

    def test_true_and_false_are_no_numbers(self):
        line = Line((("light", 1),))
        for wrong in (True, False):
            assert_refused(self, NoNumber, line.come, wrong)
        self.assertEqual(line.come(1), [])
        self.assertEqual(line.come(0), [0])

    def test_numbers_that_stand_on_any_shelf_or_came_out_may_not_come_again(self):
        line = Line((("light", 1), ("heavy", 1), ("light", 1)))
        for number in (4, 3, 2, 1):
            line.come(number)
        self.assertEqual(line.standing(), [[4], [1], [3]])
        self.assertEqual(line.out(), (2,))
        for call in [None, MARK, FINISH, ("come", 9)]:
            if call is not None:
                do(line, call)
            for number in (1, 2, 3, 4):
                assert_refused(self, NoNumber, line.come, number)

    def test_nothing_to_take_back(self):
        for shelves in LINES:
            line = Line(shelves)
            assert_refused(self, Nothing, line.back)
            self.assertEqual(told_of(line), told_of(Line(shelves)))
            self.assertTrue(line == Line(shelves))

    def test_what_was_handed_in_is_unchanged(self):
        shelves, number = [("light", 1)], [1]
        assert_refused(self, NoLine, Line, shelves)
        assert_refused(self, NoNumber, Line((("light", 1),)).come, number)
        self.assertEqual((shelves, number), ([("light", 1)], [1]))
