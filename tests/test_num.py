"""Promise 2: num."""

import unittest

from tests.calls import GREATEST, ask, ask_full, ask_one, num


class Num(unittest.TestCase):
    def test_numbered_from_0(self):
        self.assertEqual(ask(num(0, 9), num(5, 6), num(0, 9)), [[0], [1], [2]])

    def test_lo_just_at_hi(self):
        for bound in (0, 1, 7, GREATEST - 1, GREATEST):
            self.assertEqual(ask_one(num(bound, bound)), [0])

    def test_lo_above_hi(self):
        for lo, hi in ((1, 0), (8, 7), (GREATEST, 0), (GREATEST, GREATEST - 1)):
            self.assertEqual(ask_one(num(lo, hi)), [-22])

    def test_lo_below_hi(self):
        for lo, hi in ((0, 1), (7, 8), (0, GREATEST), (GREATEST - 1, GREATEST)):
            self.assertEqual(ask_one(num(lo, hi)), [0])

    def test_no_room(self):
        self.assertEqual(ask_full(num(0, 0)), [-28])

    def test_out_of_bounds_is_named_first(self):
        self.assertEqual(ask_full(num(1, 0)), [-22])


if __name__ == "__main__":
    unittest.main()
