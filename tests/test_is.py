"""Promise 3: is."""

import unittest

from tests.calls import GREATEST, ask_of, choice, is_one, list_of, num, record, text
from understood.desk import answers

NUMBER = num(5, 9)


class Is(unittest.TestCase):
    def check(self, forms, messages, others, form=0):
        """These rows are messages of the form, the others are none."""
        for expected, rows in ((1, messages), (0, others)):
            for row in rows:
                self.assertEqual(ask_of(forms, is_one(form, row)), [[expected]], row)

    def check_whole(self, forms, messages, form=0):
        """These rows are messages, and no shorter or longer ones."""
        self.check(forms, messages, [], form)
        for row in messages:
            self.check(forms, [], [row[:end] for end in range(len(row))], form)
            self.check(forms, [], [row + [number] for number in (0, 1, 5, GREATEST)], form)

    def test_as_bare_numbers(self):
        self.assertEqual(answers([0, 1, 5, 9, 6, 0, 2, 0, 5, 6, 0, 0, 6, 0, 1, 0]), [1, 0, 1, 0, 1, 1, 1, 0, 1, 0])

    def test_num(self):
        self.check([NUMBER], [[0, 5], [0, 7], [0, 9]], [[0, 4], [0, 10], [0, 0], [0, GREATEST]])
        self.check([NUMBER], [], [[], [0], [1, 5], [2, 5], [3, 5], [4, 5], [5, 5], [5], [GREATEST, 5]])
        self.check_whole([NUMBER], [[0, 5], [0, 9]])

    def test_num_at_the_ends(self):
        self.check([num(0, GREATEST)], [[0, 0], [0, GREATEST]], [[1, 0]])
        self.check([num(GREATEST, GREATEST)], [[0, GREATEST]], [[0, GREATEST - 1], [0, 0]])

    def test_text(self):
        self.check([text(2)], [[1, 0], [1, 1, 0], [1, 1, 255], [1, 2, 255, 255]],
                   [[1, 1, 256], [1, 2, 0, 256], [1, 2, 256, 0], [1, 1, GREATEST], [1, 3, 0, 0, 0]])
        self.check([text(2)], [], [[], [1], [0, 0], [2, 0], [3, 0], [4, 0], [5, 0], [1, GREATEST], [1, 1, 0, 0]])
        self.check_whole([text(2)], [[1, 0], [1, 1, 7], [1, 2, 7, 8]])

    def test_text_of_most_bytes(self):
        self.check([text(100)], [[1, size] + [255] * size for size in (0, 99, 100)], [[1, 101] + [255] * 101])
        self.check([text(0)], [[1, 0]], [[1, 1, 0], [1, 0, 0]])

    def test_list(self):
        forms = [list_of(1, 1, 3), NUMBER]
        self.check_whole(forms, [[2, 1, 0, 5], [2, 2, 0, 5, 0, 9], [2, 3, 0, 5, 0, 6, 0, 7]])
        self.check(forms, [], [[2, 0], [2, 4, 0, 5, 0, 5, 0, 5, 0, 5], [2, GREATEST]])
        self.check(forms, [], [[], [0, 5], [1, 1, 0], [3, 1, 0, 5], [4, 1, 0, 5]])
        self.check(forms, [], [[2, 2, 0, 5], [2, 1, 0, 5, 0, 5], [2, 2, 0, 5, 0, 4], [2, 2, 0, 10, 0, 5]])
        self.check(forms, [], [[2, 1, 1, 0], [2, 1, 2, 0], [2, 1]])

    def test_list_of_0_and_of_32(self):
        self.check([list_of(1, 0, 32), NUMBER], [[2, 0], [2, 32] + [0, 5] * 32], [[2, 33] + [0, 5] * 33, [2, 0, 0]])
        self.check([list_of(1, 32, 32), NUMBER], [[2, 32] + [0, 5] * 32], [[2, 31] + [0, 5] * 31, [2, 0]])
        self.check([list_of(0, 0, 0)], [[2, 0]], [[2, 1, 2, 0]])

    def test_list_of_itself(self):
        forms = [list_of(0, 0, 2)]
        self.check_whole(forms, [[2, 0], [2, 1, 2, 0], [2, 2, 2, 1, 2, 0, 2, 0], [2, 2, 2, 2, 2, 0, 2, 0, 2, 1, 2, 0]])
        self.check(forms, [], [[2, 3, 2, 0, 2, 0, 2, 0], [2, 2, 2, 3, 2, 0, 2, 0, 2, 0, 2, 0]])

    def test_record(self):
        forms = [record((2, 0, 1), (4, 1, 1), (6, 0, 2), (8, 1, 2)), NUMBER, text(1)]
        self.check_whole(forms, [
            [3, 2, 2, 0, 5, 6, 1, 0], [3, 3, 2, 0, 5, 4, 0, 6, 6, 1, 0], [3, 3, 2, 0, 5, 6, 1, 0, 8, 1, 1, 9],
            [3, 4, 2, 0, 5, 4, 0, 6, 6, 1, 0, 8, 1, 0]])

    def test_record_of_another_kind(self):
        forms = [record((2, 1, 0))]
        self.check(forms, [[3, 0]], [[], [3], [0, 0], [1, 0], [2, 0], [4, 2, 3, 0], [4, 0]])

    def test_fields_out_of_their_order(self):
        forms = [record((2, 0, 1), (4, 1, 1), (6, 0, 1)), NUMBER]
        self.check(forms, [[3, 3, 2, 0, 5, 4, 0, 5, 6, 0, 5]], [
            [3, 3, 4, 0, 5, 2, 0, 5, 6, 0, 5], [3, 3, 2, 0, 5, 6, 0, 5, 4, 0, 5], [3, 2, 6, 0, 5, 2, 0, 5]])

    def test_a_field_twice(self):
        forms = [record((2, 0, 1), (4, 1, 1)), NUMBER]
        self.check(forms, [], [[3, 2, 2, 0, 5, 2, 0, 5], [3, 3, 2, 0, 5, 2, 0, 5, 4, 0, 5],
                               [3, 3, 2, 0, 5, 4, 0, 5, 4, 0, 5]])

    def test_a_field_that_is_not_its_own(self):
        forms = [record((2, 0, 1), (4, 1, 1)), NUMBER]
        for name in (0, 1, 3, 5, 63, 64, GREATEST):
            self.check(forms, [[3, 2, 2, 0, 5, 4, 0, 5]], [
                [3, 2, 2, 0, 5, name, 0, 5], [3, 1, name, 0, 5], [3, 2, name, 0, 5, 2, 0, 5],
                [3, 3, 2, 0, 5, name, 0, 5, 4, 0, 5], [3, 3, 2, 0, 5, 4, 0, 5, name, 0, 5]])

    def test_fields_that_are_missing(self):
        forms = [record((2, 0, 1), (4, 1, 1), (6, 0, 1)), NUMBER]
        self.check(forms, [[3, 2, 2, 0, 5, 6, 0, 5]], [
            [3, 2, 4, 0, 5, 6, 0, 5], [3, 2, 2, 0, 5, 4, 0, 5], [3, 1, 2, 0, 5], [3, 1, 6, 0, 5], [3, 1, 4, 0, 5],
            [3, 0]])
        self.check([record((2, 1, 1), (4, 1, 1)), NUMBER], [[3, 0], [3, 1, 2, 0, 5], [3, 1, 4, 0, 5]], [])

    def test_a_count_of_fields_that_is_wrong(self):
        forms = [record((2, 0, 1), (4, 1, 1)), NUMBER]
        self.check(forms, [[3, 1, 2, 0, 5]], [
            [3, 0, 2, 0, 5], [3, 2, 2, 0, 5], [3, 3, 2, 0, 5], [3, GREATEST, 2, 0, 5], [3, 1, 2, 0, 5, 4, 0, 5],
            [3, 3, 2, 0, 5, 4, 0, 5]])

    def test_a_field_of_another_form(self):
        forms = [record((2, 0, 1), (4, 1, 2)), NUMBER, text(0)]
        self.check(forms, [[3, 2, 2, 0, 5, 4, 1, 0]], [
            [3, 2, 2, 1, 0, 4, 0, 5], [3, 2, 2, 0, 5, 4, 0, 5], [3, 2, 2, 0, 4, 4, 1, 0], [3, 1, 2, 0, 10]])

    def test_record_without_fields(self):
        self.check_whole([record()], [[3, 0]])
        self.check([record()], [], [[3, 1, 0, 3, 0], [3, 1], [2, 0], [4, 0]])

    def test_choice(self):
        forms = [choice((2, 1), (4, 2), (6, 0)), NUMBER, text(1)]
        self.check_whole(forms, [[4, 2, 0, 5], [4, 4, 1, 1, 3], [4, 6, 4, 6, 4, 2, 0, 9]])
        self.check(forms, [], [[], [4], [0, 5], [1, 0], [2, 0], [3, 0], [3, 1, 2, 0, 5], [4, 2, 0, 4], [4, 2, 1, 0]])

    def test_a_name_that_is_not_its_own(self):
        forms = [choice((2, 1), (4, 1)), NUMBER]
        self.check(forms, [[4, 2, 0, 5], [4, 4, 0, 5]],
                   [[4, name, 0, 5] for name in (0, 1, 3, 5, 63, 64, GREATEST)])

    def test_of_what_has_no_message(self):
        forms = [choice((0, 0)), list_of(0, 0, 1), record((1, 1, 0)), record((1, 0, 0))]
        self.check(forms, [], [[4, 0], [4, 0] * 500], form=0)
        self.check(forms, [[2, 0]], [[2, 1], [2, 1, 4, 0]], form=1)
        self.check(forms, [[3, 0]], [[3, 1, 1, 4, 0]], form=2)
        self.check(forms, [], [[3, 0], [3, 1, 1], [3, 1, 1, 4, 0]], form=3)


class ManyParts(unittest.TestCase):
    def check_200(self, forms, row_of, form=0):
        """The row has as many parts as it is asked for: just 200 are taken."""
        asked = [is_one(form, row_of(parts)) for parts in (199, 200, 201, 202)]
        self.assertEqual(ask_of(forms, *asked), [[1], [1], [0], [0]])

    def test_choices(self):
        self.check_200([choice((0, 0), (1, 1)), num(0, 0)], lambda parts: [4, 0] * (parts - 2) + [4, 1, 0, 0])

    def test_lists(self):
        self.check_200([list_of(0, 0, 1)], lambda parts: [2, 1] * (parts - 1) + [2, 0])

    def test_records(self):
        self.check_200([record((7, 1, 0))], lambda parts: [3, 1, 7] * (parts - 1) + [3, 0])

    def test_texts(self):
        self.check_200([list_of(1, 0, 2), text(100)],
                       lambda parts: [2, 2, 1, 100] + [5] * 100 + [1, parts - 103] + [5] * (parts - 103))

    def test_wide(self):
        forms = [list_of(1, 0, 6), list_of(2, 0, 32), num(0, 0), choice((0, 0), (1, 3))]
        wide = [2, 6] + ([2, 32] + [0, 0] * 32) * 6
        asked = [is_one(0, wide), is_one(3, [4, 0] + wide), is_one(3, [4, 1, 4, 0] + wide)]
        self.assertEqual(ask_of(forms, *asked), [[1], [1], [0]])

    def test_the_parts_of_all_branches_count(self):
        forms = [record((0, 0, 1), (1, 0, 1)), list_of(1, 0, 1)]

        def row_of(parts):
            second = parts - 101
            return [3, 2, 0] + [2, 1] * 99 + [2, 0, 1] + [2, 1] * (second - 1) + [2, 0]

        self.check_200(forms, row_of)

    def test_rows_of_1000_numbers(self):
        forms = [choice((0, 0), (1, 3)), list_of(1, 0, 1), record((0, 1, 2)), num(0, 0)]
        asked = [
            is_one(0, [4, 0] * 498 + [4, 1, 0, 0]), is_one(0, [4, 0] * 500), is_one(1, [2, 1] * 499 + [2, 0]),
            is_one(1, [2, 1] * 500), is_one(2, [3, 1, 0] * 333 + [3]), is_one(2, [3, 1, 0] * 332 + [3, 0, 0, 0]),
            is_one(3, [0] * 1000), is_one(3, [GREATEST] * 1000)]
        self.assertEqual({len(call) for call in asked}, {1003})
        self.assertEqual(ask_of(forms, *asked), [[0]] * 8)

    def test_row_that_is_a_message_with_more_behind_it(self):
        self.assertEqual(ask_of([list_of(0, 0, 1)], is_one(0, [2, 0] + [0] * 998)), [[0]])


if __name__ == "__main__":
    unittest.main()
