"""Promise 4: some."""

import unittest

from tests.calls import GREATEST, ask_of, choice, is_one, list_of, named, num, record, some, text
from understood.desk import answers


class Some(unittest.TestCase):
    def check(self, forms, *expected):
        """What some answers of the first forms, as many as are expected."""
        told = ask_of(forms, *[some(form) for form in range(len(expected))])
        self.assertEqual(told, [list(one) for one in expected])

    def test_as_bare_numbers(self):
        self.assertEqual(answers([0, 1, 5, 9, 7, 0, 7, 1]), [1, 0, 1, 0, 3, 1, 0, 5, 1, -2])

    def test_num(self):
        self.check([num(0, 0), num(5, 9), num(GREATEST, GREATEST)], [1, 0, 0], [1, 0, 5], [1, 0, GREATEST])

    def test_text(self):
        self.check([text(0), text(1), text(100)], [1, 1, 0], [1, 1, 0], [1, 1, 0])

    def test_list(self):
        forms = [list_of(3, 0, 5), list_of(3, 1, 5), list_of(3, 3, 3), num(7, 9)]
        self.check(forms, [1, 2, 0], [2, 2, 1, 0, 7], [4, 2, 3, 0, 7, 0, 7, 0, 7])

    def test_record(self):
        forms = [record((1, 0, 1), (2, 0, 2)), num(7, 9), text(3)]
        self.check(forms, [3, 3, 2, 1, 0, 7, 2, 1, 0])

    def test_choice(self):
        self.check([choice((5, 1), (6, 2)), num(7, 9), text(3)], [2, 4, 5, 0, 7])

    def test_record_without_fields(self):
        self.check([record()], [1, 3, 0])

    def test_fields_that_may_be_missing_are_left_out(self):
        forms = [record((1, 1, 1), (2, 0, 1), (3, 1, 1)), num(7, 9)]
        self.check(forms, [2, 3, 1, 2, 0, 7])
        self.check([record((1, 1, 1), (2, 1, 1)), num(7, 9)], [1, 3, 0])

    def test_list_of_0_of_what_has_no_message(self):
        self.check([list_of(1, 0, 3), choice((0, 1))], [1, 2, 0], [-6])
        self.check([list_of(1, 0, 0), choice((0, 1))], [1, 2, 0], [-6])
        self.check([list_of(1, 1, 3), choice((0, 1))], [-6], [-6])

    def test_choice_that_is_only_itself(self):
        self.check([choice((3, 0))], [-6])
        self.check([choice((3, 0), (4, 0))], [-6])
        self.check([choice((3, 1)), choice((3, 0))], [-6], [-6])
        self.check([choice((3, 1), (4, 2)), choice((3, 0)), choice((1, 1), (2, 2))], [-6], [-6], [-6])

    def test_record_that_holds_itself_without_a_way_out(self):
        self.check([record((3, 0, 0))], [-6])
        self.check([record((3, 0, 0), (4, 1, 1)), num(0, 0)], [-6], [1, 0, 0])
        self.check([record((3, 0, 1)), record((3, 0, 0))], [-6], [-6])
        self.check([record((3, 0, 1)), list_of(0, 1, 2)], [-6], [-6])
        self.check([record((3, 0, 1)), choice((1, 0), (2, 1))], [-6], [-6])

    def test_record_that_holds_itself_with_a_way_out(self):
        self.check([record((3, 1, 0))], [1, 3, 0])
        self.check([record((3, 0, 1)), record((4, 1, 0))], [2, 3, 1, 3, 3, 0], [1, 3, 0])
        self.check([record((3, 0, 1)), list_of(0, 0, 2)], [2, 3, 1, 3, 2, 0], [1, 2, 0])
        self.check([record((3, 0, 1)), choice((1, 0), (2, 2)), num(8, 9)], [3, 3, 1, 3, 4, 2, 0, 8], [2, 4, 2, 0, 8])

    def test_what_has_no_message_stays_out_of_a_choice(self):
        self.check([choice((1, 1), (2, 2)), choice((0, 1)), num(4, 4)], [2, 4, 2, 0, 4])

    def test_what_has_no_message_stays_out_of_a_record(self):
        self.check([record((1, 1, 1), (2, 0, 2)), choice((0, 1)), num(4, 4)], [2, 3, 1, 2, 0, 4])
        self.check([record((1, 0, 1), (2, 0, 2)), choice((0, 1)), num(4, 4)], [-6])

    def test_fewest_parts_come_before_the_earliest(self):
        forms = [choice((1, 1), (2, 2), (3, 3)), list_of(3, 2, 2), list_of(3, 1, 1), num(6, 6)]
        self.check(forms, [2, 4, 3, 0, 6])

    def test_the_earliest_of_equally_few_parts(self):
        self.check([choice((1, 3), (2, 1), (3, 2)), num(0, 0), num(1, 1), text(5)], [2, 4, 1, 1, 0])
        self.check([choice((1, 3), (2, 1), (3, 2)), num(0, 0), num(1, 1), num(9, 9)], [2, 4, 1, 0, 9])

    def test_the_fewest_parts_deep_within(self):
        forms = [choice((0, 1), (1, 2)), choice((0, 2), (1, 3)), choice((0, 1), (1, 4)), record((0, 0, 5), (1, 0, 5)),
                 record((0, 0, 5)), num(3, 3)]
        self.check(forms, [4, 4, 1, 4, 1, 3, 1, 0, 0, 3], [4, 4, 0, 4, 1, 3, 1, 0, 0, 3], [3, 4, 1, 3, 1, 0, 0, 3])

    def test_lists_of_lists(self):
        forms = [list_of(1, 2, 3), list_of(2, 3, 3), num(1, 2)]
        inner = [2, 3] + [0, 1] * 3
        self.check(forms, [9, 2, 2] + inner * 2, [4] + inner)

    def test_a_list_of_several_of_a_choice(self):
        self.check([list_of(1, 3, 4), choice((2, 3), (5, 2)), num(1, 1), text(2)], [7, 2, 3] + [4, 2, 1, 0] * 3)

    def test_16_forms_one_within_another(self):
        forms = [choice((form, form + 1)) for form in range(15)] + [num(2, 3)]
        row = [number for form in range(15) for number in (4, form)] + [0, 2]
        self.check(forms, [16] + row)

    def test_16_records_of_the_next_two(self):
        forms = [record((0, 0, form + 1), (1, 1, (form + 2) % 16)) for form in range(15)] + [record()]
        self.check(forms, [16] + [3, 1, 0] * 15 + [3, 0])


class ManyParts(unittest.TestCase):
    # Form 1 has 33 parts at least, form 2 199, form 3 200 and form 4 201.
    FORMS = [num(4, 4), list_of(0, 32, 32), list_of(1, 6, 6), choice((9, 2)), choice((9, 3))]
    ROW = [4, 9, 2, 6] + ([2, 32] + [0, 4] * 32) * 6

    def test_just_200(self):
        told = ask_of(self.FORMS, some(1), some(2), some(3), is_one(3, self.ROW))
        self.assertEqual(told, [[33, 2, 32] + [0, 4] * 32, [199] + self.ROW[2:], [200] + self.ROW, [1]])

    def test_201(self):
        self.assertEqual(ask_of(self.FORMS, some(4), is_one(4, [4, 9] + self.ROW)), [[-6], [0]])

    def test_far_more(self):
        forms = self.FORMS + [list_of(4, 1, 1), list_of(2, 32, 32), list_of(6, 32, 32), named(range(8), form=3)]
        self.assertEqual(ask_of(forms, some(5), some(6), some(7), some(8)), [[-6]] * 4)

    def test_with_a_way_out(self):
        forms = self.FORMS + [list_of(4, 0, 1), record((1, 1, 4)), choice((1, 4), (2, 3)), choice((1, 4), (2, 2))]
        told = ask_of(forms, *[some(form) for form in range(5, 9)])
        self.assertEqual(told, [[1, 2, 0], [1, 3, 0], [-6], [200, 4, 2] + self.ROW[2:]])

    def test_more_than_200_by_records(self):
        forms = [named(range(8), form=1), named(range(8), form=2), named(range(2), form=3), num(0, 0)]
        row = [3, 8]
        for name in range(8):
            row += [name, 3, 2, 0, 0, 0, 1, 0, 0]
        self.assertEqual(ask_of(forms, some(0), some(1), some(2)), [[-6], [25] + row, [3, 3, 2, 0, 0, 0, 1, 0, 0]])


if __name__ == "__main__":
    unittest.main()
