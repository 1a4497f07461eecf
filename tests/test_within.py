"""Promise 5: within."""

import unittest

from tests.calls import GREATEST, ask_of, choice, is_one, list_of, named, num, record, some, text, within
from understood.desk import answers


class Within(unittest.TestCase):
    def check(self, forms, forth, back):
        """What within answers of the first form and the second, and the other way about: 1, or the message."""
        expected = [[1] if told == 1 else [0] + told for told in (forth, back)]
        self.assertEqual(ask_of(forms, within(0, 1), within(1, 0)), expected)


class Plainly(Within):
    def test_as_bare_numbers(self):
        self.assertEqual(answers([0, 1, 5, 9, 1, 5, 8, 8, 0, 1, 8, 1, 0]), [1, 0, 1, 0, 1, 1, 3, 0, 0, 9, 1, 1])

    def test_each_form_and_itself(self):
        forms = [num(3, 8), text(7), list_of(0, 1, 3), list_of(3, 0, 2), record(), record((1, 0, 0), (2, 1, 5)),
                 choice((1, 0), (2, 6)), choice((1, 7)), record((1, 0, 8)), list_of(7, 1, 1)]
        self.assertEqual(ask_of(forms, *[within(form, form) for form in range(10)]), [[1]] * 10)

    def test_two_that_are_told_alike(self):
        alike = [num(3, 8), text(7), list_of(2, 1, 3), record((1, 0, 2), (2, 1, 0)), choice((1, 0), (2, 1))]
        for form in alike:
            self.check([form, form, num(0, 0)], 1, 1)

    def test_the_first_has_no_message(self):
        for empty in (choice((0, 0)), record((4, 0, 0)), list_of(0, 1, 1), record((3, 0, 2), (4, 0, 0))):
            for other in (num(0, 0), text(0), list_of(2, 1, 1), record(), choice((1, 2))):
                self.assertEqual(ask_of([empty, other, num(0, 0)], within(0, 1)), [[1]])

    def test_the_second_has_no_message(self):
        self.check([num(3, 4), choice((1, 1))], [0, 3], 1)
        self.check([choice((1, 2)), choice((1, 1)), num(3, 4)], [4, 1, 0, 3], 1)
        self.check([record((1, 0, 2)), record((1, 0, 1)), num(3, 4)], [3, 1, 1, 0, 3], 1)
        self.check([list_of(2, 1, 1), list_of(1, 1, 1), num(3, 4)], [2, 1, 0, 3], 1)

    def test_neither_has_a_message(self):
        self.check([choice((1, 0)), choice((2, 1))], 1, 1)
        self.check([choice((1, 0)), record((2, 0, 1))], 1, 1)

    def test_any_two_kinds(self):
        forms = [num(2, 3), text(3), list_of(0, 1, 3), record((4, 0, 0)), choice((5, 0))]
        least = [[0, 2], [1, 0], [2, 1, 0, 2], [3, 1, 4, 0, 2], [4, 5, 0, 2]]
        pairs = [(form, other) for form in range(5) for other in range(5) if form != other]
        self.assertEqual(ask_of(forms, *[within(*pair) for pair in pairs]), [[0] + least[form] for form, _ in pairs])

    def test_a_record_against_a_choice(self):
        self.check([record((1, 1, 2)), choice((1, 2)), num(0, 0)], [3, 0], [4, 1, 0, 0])
        self.check([record((0, 0, 2)), choice((0, 2)), num(0, 0)], [3, 1, 0, 0, 0], [4, 0, 0, 0])


class Bounds(Within):
    def test_num_that_just_meets(self):
        self.check([num(5, 9), num(5, 9)], 1, 1)
        self.check([num(5, 9), num(4, 9)], 1, [0, 4])
        self.check([num(5, 9), num(5, 10)], 1, [0, 10])
        self.check([num(5, 9), num(4, 10)], 1, [0, 4])
        self.check([num(5, 9), num(9, 12)], [0, 5], [0, 10])
        self.check([num(5, 9), num(1, 5)], [0, 6], [0, 1])

    def test_num_that_misses_by_one(self):
        self.check([num(5, 9), num(6, 9)], [0, 5], 1)
        self.check([num(5, 9), num(5, 8)], [0, 9], 1)
        self.check([num(5, 9), num(6, 10)], [0, 5], [0, 10])
        self.check([num(5, 9), num(10, 12)], [0, 5], [0, 10])
        self.check([num(5, 9), num(1, 4)], [0, 5], [0, 1])

    def test_num_at_the_ends(self):
        self.check([num(0, GREATEST), num(1, GREATEST)], [0, 0], 1)
        self.check([num(0, GREATEST), num(0, GREATEST - 1)], [0, GREATEST], 1)
        self.check([num(0, 0), num(GREATEST, GREATEST)], [0, 0], [0, GREATEST])

    def test_text(self):
        self.check([text(5), text(5)], 1, 1)
        self.check([text(5), text(6)], 1, [1, 6, 0, 0, 0, 0, 0, 0])
        self.check([text(0), text(1)], 1, [1, 1, 0])
        self.check([text(0), text(100)], 1, [1, 1, 0])
        self.check([text(99), text(100)], 1, [1, 100] + [0] * 100)

    def test_list(self):
        pairs = {
            (0, 3, 0, 3): 1, (1, 3, 0, 4): 1, (0, 3, 1, 3): 0, (0, 3, 0, 2): 3, (0, 3, 1, 2): 0, (1, 3, 2, 3): 1,
            (1, 3, 1, 2): 3, (2, 4, 4, 6): 2, (2, 4, 0, 2): 3, (2, 4, 5, 6): 2, (2, 4, 0, 1): 2, (0, 0, 1, 1): 0,
            (32, 32, 0, 32): 1, (32, 32, 0, 31): 32, (0, 32, 0, 31): 32, (0, 32, 0, 0): 1}
        for (lo, hi, other_lo, other_hi), size in pairs.items():
            forms = [list_of(2, lo, hi), list_of(2, other_lo, other_hi), num(6, 7)]
            taken = other_lo <= lo and hi <= other_hi
            expected = [1] if taken else [0, 2, size] + [0, 6] * size
            self.assertEqual(ask_of(forms, within(0, 1)), [expected], (lo, hi, other_lo, other_hi))

    def test_lists_of_what_has_no_message(self):
        empty = choice((0, 2))
        self.check([list_of(2, 0, 3), list_of(2, 0, 0), empty], 1, 1)
        self.check([list_of(2, 0, 3), list_of(2, 1, 3), empty], [2, 0], 1)
        self.check([list_of(2, 0, 3), list_of(3, 0, 3), empty, num(1, 1)], 1, [2, 1, 0, 1])
        self.check([list_of(2, 0, 3), list_of(3, 0, 0), empty, num(1, 1)], 1, 1)


class Lists(Within):
    def test_only_the_messages_within_differ(self):
        self.check([list_of(2, 0, 3), list_of(3, 0, 3), num(5, 9), num(6, 9)], [2, 1, 0, 5], 1)
        self.check([list_of(2, 1, 3), list_of(3, 0, 4), num(5, 9), num(5, 8)], [2, 1, 0, 9], [2, 0])

    def test_no_message_within_is_ever_there(self):
        self.check([list_of(2, 0, 0), list_of(3, 0, 0), num(5, 9), text(1)], 1, 1)
        self.check([list_of(2, 0, 0), list_of(3, 0, 9), num(5, 9), text(1)], 1, [2, 1, 1, 0])

    def test_the_refused_one_comes_last_where_it_is_later(self):
        self.check([list_of(2, 3, 3), list_of(3, 3, 3), num(5, 9), num(5, 8)], [2, 3, 0, 5, 0, 5, 0, 9], 1)

    def test_each_is_refused_where_the_least_is(self):
        self.check([list_of(2, 3, 3), list_of(3, 3, 3), num(5, 9), num(6, 9)], [2, 3, 0, 5, 0, 5, 0, 5], 1)

    def test_the_refused_one_comes_first_where_it_is_earlier(self):
        forms = [list_of(2, 3, 3), list_of(3, 3, 3), choice((1, 4), (2, 5)), choice((2, 5)), list_of(5, 2, 2),
                 num(7, 7)]
        self.check(forms, [2, 3, 4, 1, 2, 2, 0, 7, 0, 7, 4, 2, 0, 7, 4, 2, 0, 7], 1)

    def test_the_least_size_that_both_take(self):
        self.check([list_of(2, 2, 5), list_of(3, 1, 5), num(5, 9), num(5, 8)], [2, 2, 0, 5, 0, 9], [2, 1, 0, 5])
        self.check([list_of(2, 0, 5), list_of(3, 0, 5), num(5, 9), num(5, 8)], [2, 1, 0, 9], 1)

    def test_one_too_many_against_one_that_is_refused(self):
        """As many parts either way: the shorter list is the earlier."""
        inner = [num(5, 5), text(1), text(0)]
        self.check([list_of(3, 1, 2), list_of(4, 1, 1)] + inner, [2, 1, 1, 1, 0], 1)

    def test_one_too_many_where_that_is_fewer_parts(self):
        inner = [num(5, 5), text(2), text(1)]
        self.check([list_of(3, 1, 2), list_of(4, 1, 1)] + inner, [2, 2, 1, 0, 1, 0], 1)

    def test_forms_that_differ_only_in_messages_with_many_parts(self):
        forms = [list_of(2, 0, 4), list_of(3, 0, 4), text(100), text(99)]
        self.check(forms, [2, 1, 1, 100] + [0] * 100, 1)
        forms = [list_of(2, 4, 4), list_of(3, 4, 4), text(100), text(99)]
        self.check(forms, [2, 4, 1, 0, 1, 0, 1, 0, 1, 100] + [0] * 100, 1)


class Records(Within):
    def test_no_fields(self):
        self.check([record(), record()], 1, 1)
        self.check([record(), record((1, 0, 2)), num(0, 0)], [3, 0], [3, 1, 1, 0, 0])

    def test_an_optional_field_that_only_one_has(self):
        self.check([record((1, 0, 2), (3, 1, 2)), record((1, 0, 2)), num(7, 7)], [3, 2, 1, 0, 7, 3, 0, 7], 1)
        self.check([record((3, 1, 2)), record(), num(7, 7)], [3, 1, 3, 0, 7], 1)
        self.check([record((1, 1, 2)), record((3, 1, 2)), num(7, 7)], [3, 1, 1, 0, 7], [3, 1, 3, 0, 7])

    def test_an_optional_field_that_is_never_there(self):
        self.check([record((3, 1, 2)), record(), choice((0, 2))], 1, 1)
        self.check([record((3, 1, 2)), record((3, 1, 3)), choice((0, 2)), num(1, 1)], 1, [3, 1, 3, 0, 1])

    def test_a_field_that_one_must_have_and_the_other_may(self):
        self.check([record((1, 0, 2)), record((1, 1, 2)), num(7, 7)], 1, [3, 0])
        self.check([record((1, 0, 2), (2, 0, 2)), record((1, 1, 2), (2, 0, 2)), num(7, 7)], 1, [3, 1, 2, 0, 7])

    def test_a_field_that_one_must_have_and_the_other_has_not(self):
        self.check([record((1, 0, 2), (2, 0, 2)), record((2, 0, 2)), num(7, 7)],
                   [3, 2, 1, 0, 7, 2, 0, 7], [3, 1, 2, 0, 7])

    def test_the_field_within_differs(self):
        self.check([record((1, 0, 2)), record((1, 0, 3)), num(5, 9), num(5, 8)], [3, 1, 1, 0, 9], 1)
        self.check([record((1, 1, 2)), record((1, 1, 3)), num(5, 9), num(5, 8)], [3, 1, 1, 0, 9], 1)
        self.check([record((1, 0, 2)), record((1, 1, 3)), num(5, 9), num(5, 8)], [3, 1, 1, 0, 9], [3, 0])

    def test_the_other_fields_are_the_least_and_the_rest_is_left_out(self):
        forms = [record((1, 0, 2), (2, 1, 2), (3, 0, 3), (4, 1, 2), (5, 0, 2)),
                 record((1, 0, 2), (2, 1, 2), (3, 0, 4), (4, 1, 2), (5, 0, 2)), num(7, 9), text(3), text(2)]
        self.check(forms, [3, 3, 1, 0, 7, 3, 1, 3, 0, 0, 0, 5, 0, 7], 1)

    def test_several_fields_differ(self):
        forms = [record((1, 0, 2), (2, 0, 2)), record((1, 0, 3), (2, 0, 3)), num(5, 9), num(5, 8)]
        self.check(forms, [3, 2, 1, 0, 5, 2, 0, 9], 1)
        forms = [record((1, 1, 2), (2, 1, 2)), record((1, 1, 3), (2, 1, 3)), num(5, 9), num(5, 8)]
        self.check(forms, [3, 1, 1, 0, 9], 1)
        forms = [record((1, 1, 4), (2, 1, 2)), record((1, 1, 5), (2, 1, 3)), num(5, 9), num(5, 8), text(1), text(0)]
        self.check(forms, [3, 1, 2, 0, 9], 1)

    def test_an_earlier_message_comes_of_a_later_field(self):
        """As many parts by either field: one fewer field is the earlier."""
        forms = [record((1, 1, 2), (2, 0, 3)), record((2, 0, 4)), num(7, 7), text(1), text(0)]
        self.check(forms, [3, 1, 2, 1, 1, 0], 1)

    def test_a_field_that_must_be_there_has_no_message(self):
        self.check([record((1, 0, 2), (2, 0, 3)), record((2, 0, 3)), choice((0, 2)), num(0, 0)], 1, [3, 1, 2, 0, 0])

    def test_8_fields_against_8(self):
        forms = [record(*[(name, name % 2, 2) for name in range(8)]),
                 record(*[(name, name % 2, 2 if name < 7 else 3) for name in range(8)]), num(1, 2), num(1, 1)]
        self.check(forms, [3, 5, 0, 0, 1, 2, 0, 1, 4, 0, 1, 6, 0, 1, 7, 0, 2], 1)


class Choices(Within):
    def test_a_choice_that_only_one_has(self):
        self.check([choice((1, 2), (2, 2)), choice((1, 2)), num(7, 7)], [4, 2, 0, 7], 1)
        self.check([choice((1, 2)), choice((2, 2)), num(7, 7)], [4, 1, 0, 7], [4, 2, 0, 7])

    def test_a_choice_that_never_is(self):
        self.check([choice((1, 2), (2, 3)), choice((1, 2)), num(7, 7), choice((0, 3))], 1, 1)

    def test_within_it_differs(self):
        self.check([choice((1, 2), (2, 2)), choice((1, 2), (2, 3)), num(5, 9), num(5, 8)], [4, 2, 0, 9], 1)

    def test_the_fewest_parts_and_of_these_the_earliest(self):
        forms = [choice((1, 2), (2, 4), (3, 4)), choice((1, 3)), text(2), text(0), num(7, 7)]
        self.check(forms, [4, 2, 0, 7], 1)
        forms = [choice((1, 3), (2, 2), (3, 2)), choice((1, 4), (5, 2)), num(7, 7), text(1), text(0)]
        self.check(forms, [4, 2, 0, 7], [4, 5, 0, 7])
        forms = [choice((1, 4), (2, 2)), choice((3, 2)), num(7, 7), text(1), num(6, 9)]
        self.check(forms, [4, 1, 0, 6], [4, 3, 0, 7])


class Round(Within):
    def test_two_that_hold_themselves(self):
        self.check([record((1, 1, 0)), record((1, 1, 1))], 1, 1)
        self.check([list_of(0, 0, 3), list_of(1, 0, 2)], [2, 3, 2, 0, 2, 0, 2, 0], 1)
        self.check([choice((1, 0), (2, 2)), choice((1, 1), (2, 3)), num(5, 9), num(5, 8)], [4, 2, 0, 9], 1)

    def test_rounds_of_one_and_of_two(self):
        self.check([record((1, 1, 0)), record((1, 1, 2)), record((1, 1, 1))], 1, 1)
        self.check([record((1, 1, 0)), record((1, 1, 2)), record((1, 1, 1), (2, 1, 2))],
                   1, [3, 1, 1, 3, 1, 2, 3, 0])

    def test_two_that_go_round_in_another_order(self):
        alike = [choice((1, 2), (9, 6)), choice((1, 4), (9, 6)), choice((2, 3), (9, 6)), choice((3, 0), (9, 6)),
                 choice((2, 5), (9, 6)), choice((3, 1), (9, 6)), num(8, 8)]
        self.check(alike, 1, 1)
        other = [choice((1, 2), (9, 6)), choice((1, 4), (9, 6)), choice((2, 3), (9, 6)), choice((3, 0), (9, 6)),
                 choice((3, 5), (9, 6)), choice((2, 1), (9, 6)), num(8, 8)]
        self.check(other, [4, 1, 4, 2, 4, 9, 0, 8], [4, 1, 4, 3, 4, 9, 0, 8])

    def test_rounds_of_7_and_of_8(self):
        """The 7th of the one round may end, the 8th of the other may not: both come together 56 steps on."""
        forms = [choice((0, (k + 1) % 7), (1, 15)) if k == 6 else choice((0, (k + 1) % 7)) for k in range(7)]
        forms += [choice((0, 7 + k + 1), (1, 15)) for k in range(7)] + [choice((0, 7)), num(3, 4)]
        row = [4, 0] * 55 + [4, 1, 0, 3]
        told = ask_of(forms, within(0, 7), is_one(0, row), is_one(7, row), within(7, 0))
        self.assertEqual(told, [[0] + row, [1], [0], [0, 4, 1, 0, 3]])

    def test_16_forms_that_refer_to_one_another(self):
        forms = [record((0, 1, (form + 1) % 16), (1, 1, (form + 5) % 16)) for form in range(16)]
        pairs = [(form, other) for form in range(16) for other in range(16)]
        self.assertEqual(ask_of(forms, *[within(*pair) for pair in pairs]), [[1]] * 256)

    def test_16_forms_one_of_which_has_a_field_more(self):
        forms = [record((0, 1, (form + 1) % 16)) for form in range(15)] + [record((0, 1, 0), (1, 1, 15))]
        told = ask_of(forms, *[within(form, 14) for form in range(16)])
        for form in range(15):
            steps = 15 - form
            self.assertEqual(told[form], [1] if form == 14 else [0] + [3, 1, 0] * steps + [3, 1, 1, 3, 0], form)
        self.assertEqual(told[15], [0, 3, 1, 1, 3, 0])


class Deep(Within):
    def test_the_rest_around_is_the_least(self):
        forms = [
            record((1, 0, 2), (2, 0, 6), (3, 1, 6)), record((1, 0, 3), (2, 0, 6), (3, 1, 6)),
            list_of(4, 2, 3), list_of(5, 2, 3),
            choice((1, 8), (2, 9)), choice((1, 8), (2, 10)),
            choice((3, 9), (4, 7)), text(9), num(6, 7), num(2, 3), num(2, 2)]
        self.check(forms, [3, 2, 1, 2, 2, 4, 1, 0, 6, 4, 2, 0, 3, 2, 4, 3, 0, 2], 1)

    def test_fewer_parts_by_the_deeper_way(self):
        forms = [choice((1, 2), (2, 4)), choice((1, 3), (2, 5)), text(9), text(8), choice((1, 6)), choice((1, 7)),
                 num(0, 5), num(0, 4)]
        self.check(forms, [4, 2, 4, 1, 0, 5], 1)

    def test_out_and_in_again(self):
        """The way to the difference leads round once before it comes to what differs."""
        forms = [record((1, 1, 2)), record((1, 1, 3)), choice((1, 0), (2, 4)), choice((1, 5), (2, 4)), num(1, 1),
                 record((1, 1, 6)), choice((1, 5), (3, 4))]
        self.check(forms, [3, 1, 1, 4, 1, 3, 1, 1, 4, 2, 0, 1], [3, 1, 1, 4, 1, 3, 1, 1, 4, 3, 0, 1])


class ManyParts(Within):
    # Lists of 32 that differ only where one of their texts is as long as it may be: 1 + 31 + 101 parts.
    INNER = [list_of(4, 32, 32), list_of(5, 32, 32), text(100), text(99)]
    LEAST = [2, 32] + [1, 0] * 32
    REFUSED = [2, 32] + [1, 0] * 31 + [1, 100] + [0] * 100

    def test_just_200(self):
        forms = [list_of(2, 3, 3), list_of(3, 3, 3)] + self.INNER
        row = [2, 3] + self.LEAST * 2 + self.REFUSED
        self.check(forms, row, 1)
        told = ask_of(forms, is_one(0, row), is_one(1, row), some(0))
        self.assertEqual(told, [[1], [0], [100, 2, 3] + self.LEAST * 3])

    def test_201(self):
        forms = [choice((1, 6)), choice((1, 7))] + self.INNER + [list_of(2, 3, 3), list_of(3, 3, 3)]
        self.check(forms, 1, 1)
        row = [2, 3] + self.LEAST * 2 + self.REFUSED
        self.assertEqual(ask_of(forms, is_one(0, [4, 1] + row), within(6, 7)), [[0], [0] + row])

    def test_more_than_201(self):
        self.check([list_of(2, 4, 4), list_of(3, 4, 4)] + self.INNER, 1, 1)
        self.check([list_of(2, 32, 32), list_of(3, 32, 32)] + self.INNER, 1, 1)

    def test_least_message_of_the_first_has_more_than_200(self):
        forms = [list_of(2, 7, 7), num(0, 0), list_of(1, 32, 32)]
        self.check(forms, 1, [0, 0])

    def test_least_message_of_the_second_has_more_than_200(self):
        forms = [list_of(2, 0, 7), list_of(2, 7, 7), list_of(3, 32, 32), num(0, 0)]
        self.check(forms, [2, 0], 1)
        forms = [list_of(2, 6, 7), list_of(2, 7, 7), list_of(3, 32, 32), num(0, 0)]
        self.check(forms, [2, 6] + ([2, 32] + [0, 0] * 32) * 6, 1)

    def test_a_field_too_many_that_would_have_more_than_200(self):
        forms = [record((1, 0, 2), (2, 1, 2)), record((1, 0, 2)), list_of(3, 3, 3), list_of(4, 32, 32), num(0, 0)]
        self.check(forms, 1, 1)
        self.assertEqual(ask_of(forms, some(0)), [[101, 3, 1, 1, 2, 3] + ([2, 32] + [0, 0] * 32) * 3])

    def test_a_field_too_many_that_has_just_200_with_the_rest(self):
        forms = [record((1, 0, 2), (2, 1, 4)), record((1, 0, 2)), list_of(3, 5, 5), list_of(5, 32, 32),
                 list_of(5, 32, 32), num(0, 0)]
        lists = [2, 32] + [0, 0] * 32
        self.check(forms, [3, 2, 1, 2, 5] + lists * 5 + [2] + lists, 1)

    def test_rounds_of_5_and_of_6_that_come_together_just_at_200(self):
        """Each step has 6 parts; the 30th is the first where the one may have a field that the other has not."""
        for size in (19, 20):
            forms = [record((0, 0, 11), (1, 1, form + 1)) for form in range(4)]
            forms += [record((0, 0, 11), (1, 1, 0), (2, 1, 13))]
            forms += [record((0, 0, 11), (1, 1, form + 1), (2, 1, 13)) for form in range(5, 10)]
            forms += [record((0, 0, 11), (1, 1, 5)), named(range(4), form=12), num(0, 0), list_of(12, size, size)]
            step = [3, 2, 0, 3, 4] + [0, 0, 0] + [1, 0, 0] + [2, 0, 0] + [3, 0, 0]
            row = (step + [1]) * 29 + step + [2, 2, size] + [0, 0] * size
            told = ask_of(forms, within(0, 5), is_one(0, row), is_one(5, row))
            self.assertEqual(told, [[0] + row, [1], [0]] if size == 19 else [[1], [0], [0]])


if __name__ == "__main__":
    unittest.main()
