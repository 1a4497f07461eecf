"""Promise 2: text."""

import unittest

from tests.calls import GREATEST, ask, ask_full, ask_one, text


class Text(unittest.TestCase):
    def test_numbered_from_0(self):
        self.assertEqual(ask(text(1), text(2), text(1)), [[0], [1], [2]])

    def test_most_that_is_taken(self):
        for most in (0, 1, 50, 99, 100):
            self.assertEqual(ask_one(text(most)), [0])

    def test_most_above_100(self):
        for most in (101, 102, 255, 256, GREATEST):
            self.assertEqual(ask_one(text(most)), [-22])

    def test_no_room(self):
        self.assertEqual(ask_full(text(100)), [-28])

    def test_out_of_bounds_is_named_first(self):
        self.assertEqual(ask_full(text(101)), [-22])


if __name__ == "__main__":
    unittest.main()
