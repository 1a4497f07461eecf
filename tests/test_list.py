"""Promise 2: list."""

import unittest

from tests.calls import GREATEST, ask, ask_full, ask_one, list_of, num


class ListOf(unittest.TestCase):
    def test_numbered_from_0(self):
        self.assertEqual(ask(num(0, 1), list_of(0, 0, 3), list_of(1, 2, 2)), [[0], [1], [2]])

    def test_of_itself(self):
        self.assertEqual(ask(list_of(0, 0, 1), list_of(1, 1, 1)), [[0], [1]])

    def test_of_one_that_is_told_later_or_never(self):
        self.assertEqual(ask(list_of(1, 0, 1), list_of(15, 0, 1)), [[0], [1]])

    def test_of_15_and_16(self):
        self.assertEqual(ask_one(list_of(15, 0, 1)), [0])
        self.assertEqual(ask_one(list_of(16, 0, 1)), [-22])
        self.assertEqual(ask_one(list_of(GREATEST, 0, 1)), [-22])

    def test_lo_at_and_above_hi(self):
        for bound in (0, 1, 31, 32):
            self.assertEqual(ask_one(list_of(0, bound, bound)), [0])
            self.assertEqual(ask_one(list_of(0, bound + 1, bound)), [-22])
        self.assertEqual(ask_one(list_of(0, GREATEST, 32)), [-22])

    def test_hi_32_and_33(self):
        self.assertEqual(ask_one(list_of(0, 0, 32)), [0])
        self.assertEqual(ask_one(list_of(0, 0, 33)), [-22])
        self.assertEqual(ask_one(list_of(0, 33, 33)), [-22])
        self.assertEqual(ask_one(list_of(0, 0, GREATEST)), [-22])

    def test_greatest_numbers(self):
        self.assertEqual(ask_one(list_of(GREATEST, GREATEST, GREATEST)), [-22])

    def test_no_room(self):
        self.assertEqual(ask_full(list_of(15, 0, 32)), [-28])

    def test_out_of_bounds_is_named_first(self):
        for call in (list_of(16, 0, 1), list_of(0, 1, 0), list_of(0, 0, 33)):
            self.assertEqual(ask_full(call), [-22])


if __name__ == "__main__":
    unittest.main()
