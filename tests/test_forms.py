"""What is kept of the forms that are told."""

import unittest

from understood.forms import CHOICE, LIST, NUM, RECORD, TEXT, Forms


class Kept(unittest.TestCase):
    def test_each_form_as_it_was_told(self):
        forms = Forms()
        forms.tell_num(3, 4)
        forms.tell_text(7)
        forms.tell_list(15, 1, 2)
        forms.tell_record([1, 0, 9, 6, 1, 3])
        forms.tell_record([])
        forms.tell_choice([1, 9, 6, 3])
        self.assertEqual(forms.told, [
            (NUM, 3, 4), (TEXT, 7), (LIST, 15, 1, 2), (RECORD, ((1, 0, 9), (6, 1, 3))), (RECORD, ()),
            (CHOICE, ((1, 9), (6, 3)))])

    def test_a_refusal_keeps_what_was_told(self):
        forms = Forms()
        for k in range(16):
            forms.tell_num(k, k)
        before = list(forms.told)
        self.assertEqual(forms.tell_num(0, 0), -28)
        self.assertEqual(forms.tell_text(101), -22)
        self.assertEqual(forms.tell_list(0, 1, 0), -22)
        self.assertEqual(forms.tell_record([2, 0, 0, 1, 0, 0]), -22)
        self.assertEqual(forms.tell_choice([]), -22)
        self.assertEqual(forms.tell_choice([1, 0]), -28)
        self.assertEqual(forms.told, before)

    def test_begin_lets_all_go(self):
        forms = Forms()
        forms.tell_text(1)
        self.assertEqual(forms.begin(), 0)
        self.assertEqual(forms.told, [])

    def test_a_row_changed_afterwards_changes_no_form(self):
        forms = Forms()
        row = [1, 0, 9]
        forms.tell_record(row)
        row[2] = 4
        self.assertEqual(forms.told, [(RECORD, ((1, 0, 9),))])


if __name__ == "__main__":
    unittest.main()
