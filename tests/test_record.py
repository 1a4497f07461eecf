"""Promise 2: record."""

import unittest

from tests.calls import GREATEST, ask, ask_full, ask_one, named, num, record


class Record(unittest.TestCase):
    def test_numbered_from_0(self):
        self.assertEqual(ask(num(0, 1), named([1, 2]), record(), named([3])), [[0], [1], [2], [3]])

    def test_no_field(self):
        self.assertEqual(ask_one(record()), [0])

    def test_may_be_missing_or_not(self):
        self.assertEqual(ask_one(record((4, 1, 0))), [0])
        self.assertEqual(ask_one(record((4, 0, 0))), [0])
        self.assertEqual(ask_one(record((4, 1, 0), (5, 0, 0), (6, 1, 0))), [0])

    def test_8_fields_and_9(self):
        self.assertEqual(ask_one(named(range(8))), [0])
        self.assertEqual(ask_one(named(range(9))), [-22])

    def test_8_fields_that_may_be_missing_and_9(self):
        self.assertEqual(ask_one(record(*[(name, 1, 0) for name in range(8)])), [0])
        self.assertEqual(ask_one(record(*[(name, 1, 0) for name in range(9)])), [-22])

    def test_100_fields(self):
        self.assertEqual(ask_one(named(range(100))), [-22])

    def test_name_0_63_and_64(self):
        self.assertEqual(ask_one(named([0])), [0])
        self.assertEqual(ask_one(named([63])), [0])
        self.assertEqual(ask_one(named([64])), [-22])
        self.assertEqual(ask_one(named([GREATEST])), [-22])
        self.assertEqual(ask_one(named([0, 1, 63])), [0])
        self.assertEqual(ask_one(named([0, 1, 64])), [-22])

    def test_form_15_and_16(self):
        self.assertEqual(ask_one(named([1], form=15)), [0])
        self.assertEqual(ask_one(named([1], form=16)), [-22])
        self.assertEqual(ask_one(named([1], form=GREATEST)), [-22])

    def test_one_form_of_several_is_too_great(self):
        self.assertEqual(ask_one(record((1, 0, 16), (2, 0, 0), (3, 0, 0))), [-22])
        self.assertEqual(ask_one(record((1, 0, 0), (2, 1, 16), (3, 0, 0))), [-22])
        self.assertEqual(ask_one(record((1, 0, 0), (2, 0, 0), (3, 1, 16))), [-22])

    def test_names_that_rise(self):
        self.assertEqual(ask_one(named([1, 2, 3])), [0])
        self.assertEqual(ask_one(named([0, 62, 63])), [0])

    def test_names_that_stay_the_same(self):
        for names in ([0, 0], [7, 7], [63, 63], [1, 2, 2], [1, 1, 2], [1, 2, 2, 3]):
            self.assertEqual(ask_one(named(names)), [-22])

    def test_names_that_fall(self):
        for names in ([1, 0], [63, 0], [1, 3, 2], [3, 1, 2], [1, 2, 0]):
            self.assertEqual(ask_one(named(names)), [-22])

    def test_names_are_held_to_it_whether_or_not_a_field_may_be_missing(self):
        self.assertEqual(ask_one(record((5, 1, 0), (5, 0, 0))), [-22])
        self.assertEqual(ask_one(record((5, 0, 0), (5, 1, 1))), [-22])
        self.assertEqual(ask_one(record((5, 1, 0), (4, 1, 0))), [-22])

    def test_of_itself_and_of_ones_told_later_or_never(self):
        self.assertEqual(ask(named([1], form=0), named([1], form=2), named([1], form=15)), [[0], [1], [2]])

    def test_no_room(self):
        for call in (record(), named([1]), named(range(56, 64), form=15)):
            self.assertEqual(ask_full(call), [-28])

    def test_out_of_bounds_is_named_first(self):
        for call in (named(range(9)), named([64]), named([1], form=16), named([1, 1]), named([2, 1])):
            self.assertEqual(ask_full(call), [-22])


if __name__ == "__main__":
    unittest.main()
