"""The interface: how calls stand in the list, and what is given back."""

import contextlib
import io
import unittest

from tests.calls import (
    BEGIN, GREATEST, choice, difference, is_one, joined, list_of, named, num, record, some, text, within)
from understood.desk import UnknownCall, answers


class Untouchable(list):
    """A list that tells when somebody changes it, if only for a while."""

    def refuse(self, *args, **kwargs):
        raise AssertionError("what was handed in is changed")

    __setitem__ = __delitem__ = __iadd__ = __imul__ = refuse
    append = clear = extend = insert = pop = remove = reverse = sort = refuse


SOME_OF_EACH = joined([
    BEGIN, num(2, 3), num(3, 2), text(100), text(101), list_of(3, 0, 32), list_of(3, 0, 33),
    record((1, 0, 0), (2, 1, 3)), record((2, 0, 0), (1, 1, 3)), record(), choice((7, 0), (8, 6)), choice(),
    some(5), num(9, 9), some(5), some(7), is_one(2, [2, 1, 3, 1, 1, 0, 2]), is_one(2, [2, 1, 3, 1, 1, 0, 4]),
    is_one(2, []), is_one(7, []), within(3, 4), within(4, 3), within(4, 4), within(0, 7), BEGIN, record(), some(0)])
GIVEN_FOR_THEM = [
    1, 0, 1, 0, 1, -22, 1, 1, 1, -22, 1, 2, 1, -22, 1, 3, 1, -22, 1, 4, 1, 5, 1, -22,
    1, -61, 1, 6, 5, 2, 4, 7, 0, 2, 1, -2, 1, 1, 1, 0,
    1, 0, 1, -2, 6, 0, 3, 1, 1, 0, 2, 3, 0, 3, 0, 1, 1, 1, -2, 1, 0, 1, 0, 3, 1, 3, 0]


class Answers(unittest.TestCase):
    def test_1_call(self):
        self.assertEqual(answers([0]), [1, 0])

    def test_some_of_each_call_as_bare_numbers(self):
        calls = [0, 1, 5, 9, 2, 40, 3, 1, 0, 8, 4, 6, 1, 0, 0, 2, 1, 2, 4, 0]
        self.assertEqual(answers(calls), [1, 0, 1, 0, 1, 1, 1, 2, 1, 3, 1, 4])

    def test_some_of_each_call(self):
        self.assertEqual(answers(list(SOME_OF_EACH)), GIVEN_FOR_THEM)

    def test_400_calls(self):
        calls = joined([BEGIN] + [num(k, k) for k in range(399)])
        expected = [1, 0]
        for k in range(399):
            expected += [1, k if k < 16 else -28]
        self.assertEqual(len(expected), 800)
        self.assertIsNone(difference(answers(calls), expected))

    def test_400_calls_with_begins_among_them(self):
        calls = joined([BEGIN, record(), text(101), text(3)] * 100)
        self.assertIsNone(difference(answers(calls), [1, 0, 1, 0, 1, -22, 1, 1] * 100))

    def test_longest_list(self):
        calls = joined([BEGIN] + [named(range(100))] * 99 + [num(0, 0)] * 32 + [BEGIN, text(0), BEGIN, BEGIN])
        self.assertEqual(len(calls), 30000)
        taken = [number for k in range(16) for number in (1, k)]
        expected = [1, 0] + [1, -22] * 99 + taken + [1, -28] * 16 + [1, 0] * 4
        self.assertIsNone(difference(answers(calls), expected))

    def test_refused_rows_are_passed_whole(self):
        for row in ([GREATEST, 1, GREATEST] * 100, [0, 0, 0] * 9, [64, 0, 0], [0, 0, 16]):
            calls = [0, 4, len(row)] + row + [1, 4, 4]
            self.assertEqual(answers(calls), [1, 0, 1, -22, 1, 0])

    def test_rows_of_choice_and_is_are_passed_whole(self):
        for row in ([GREATEST, 1] * 100, [0, 0] * 9, [64, 0], [0, 16], []):
            calls = [0, 5, len(row)] + row + [1, 4, 4]
            self.assertEqual(answers(calls), [1, 0, 1, -22, 1, 0])
        for row in ([GREATEST] * 1000, [0] * 1000, [0, 4, 0], [8]):
            calls = [0, 1, 4, 4, 6, 0, len(row)] + row + [7, 0]
            self.assertEqual(answers(calls), [1, 0, 1, 0, 1, 0, 3, 1, 0, 4])

    def test_gives_back_plain_whole_numbers(self):
        given = answers(list(SOME_OF_EACH))
        self.assertIs(type(given), list)
        self.assertEqual({type(number) for number in given}, {int})

    def test_what_is_handed_in_is_not_changed(self):
        calls = list(SOME_OF_EACH)
        answers(calls)
        self.assertEqual(calls, SOME_OF_EACH)
        self.assertEqual(answers(Untouchable(SOME_OF_EACH)), GIVEN_FOR_THEM)

    def test_what_is_given_back_is_not_what_was_handed_in(self):
        calls = [0]
        answers(calls).append(7)
        self.assertEqual(calls, [0])
        self.assertEqual(answers(calls), [1, 0])

    def test_two_times_in_a_row_give_the_same(self):
        full = joined([BEGIN] + [num(0, 0)] * 17)
        self.assertEqual(answers(full), answers(full))
        self.assertEqual(answers(SOME_OF_EACH), GIVEN_FOR_THEM)
        self.assertEqual(answers(SOME_OF_EACH), GIVEN_FOR_THEM)

    def test_nothing_is_kept_from_a_time_that_failed(self):
        with self.assertRaises(UnknownCall):
            answers([0, 1, 0, 0, 9])
        self.assertEqual(answers([0, 1, 0, 0]), [1, 0, 1, 0])

    def test_prints_nothing(self):
        shown = io.StringIO()
        with contextlib.redirect_stdout(shown), contextlib.redirect_stderr(shown):
            answers(list(SOME_OF_EACH))
        self.assertEqual(shown.getvalue(), "")


if __name__ == "__main__":
    unittest.main()
