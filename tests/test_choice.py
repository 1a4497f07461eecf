"""Promise 2: choice."""

import unittest

from tests.calls import GREATEST, ask, ask_full, ask_of, ask_one, choice, list_of, num, record, some, text
from understood.desk import answers


def named_choice(names, form=0):
    return choice(*[(name, form) for name in names])


class Choice(unittest.TestCase):
    def test_numbered_from_0(self):
        self.assertEqual(ask(named_choice([1]), num(0, 1), named_choice([1, 2])), [[0], [1], [2]])

    def test_as_bare_numbers(self):
        self.assertEqual(answers([0, 1, 3, 4, 5, 4, 2, 0, 9, 1, 7, 1]), [1, 0, 1, 0, 1, 1, 5, 2, 4, 2, 0, 3])

    def test_none_at_all(self):
        self.assertEqual(ask_one(choice()), [-22])

    def test_8_and_9(self):
        self.assertEqual(ask_one(named_choice(range(8))), [0])
        self.assertEqual(ask_one(named_choice(range(9))), [-22])

    def test_100(self):
        self.assertEqual(ask_one(named_choice(range(64))), [-22])
        self.assertEqual(ask_one(named_choice([0] * 100)), [-22])

    def test_name_0_63_and_64(self):
        self.assertEqual(ask_one(named_choice([0])), [0])
        self.assertEqual(ask_one(named_choice([63])), [0])
        self.assertEqual(ask_one(named_choice([64])), [-22])
        self.assertEqual(ask_one(named_choice([GREATEST])), [-22])
        self.assertEqual(ask_one(named_choice([0, 1, 63])), [0])
        self.assertEqual(ask_one(named_choice([0, 1, 64])), [-22])

    def test_form_15_and_16(self):
        self.assertEqual(ask_one(named_choice([1], form=15)), [0])
        self.assertEqual(ask_one(named_choice([1], form=16)), [-22])
        self.assertEqual(ask_one(named_choice([1], form=GREATEST)), [-22])

    def test_one_form_of_several_is_too_great(self):
        self.assertEqual(ask_one(choice((1, 16), (2, 0), (3, 0))), [-22])
        self.assertEqual(ask_one(choice((1, 0), (2, 16), (3, 0))), [-22])
        self.assertEqual(ask_one(choice((1, 0), (2, 0), (3, 16))), [-22])

    def test_names_that_rise(self):
        self.assertEqual(ask_one(named_choice([1, 2, 3])), [0])
        self.assertEqual(ask_one(named_choice([0, 62, 63])), [0])

    def test_names_that_stay_the_same(self):
        for names in ([0, 0], [7, 7], [63, 63], [1, 2, 2], [1, 1, 2], [1, 2, 2, 3]):
            self.assertEqual(ask_one(named_choice(names)), [-22])

    def test_names_that_fall(self):
        for names in ([1, 0], [63, 0], [1, 3, 2], [3, 1, 2], [1, 2, 0]):
            self.assertEqual(ask_one(named_choice(names)), [-22])

    def test_of_itself_and_of_ones_told_later_or_never(self):
        self.assertEqual(ask(choice((1, 0)), choice((1, 2)), choice((1, 15))), [[0], [1], [2]])

    def test_several_of_one_form(self):
        self.assertEqual(ask_one(choice((1, 0), (2, 0))), [0])

    def test_no_room(self):
        for call in (named_choice([1]), named_choice(range(56, 64), form=15)):
            self.assertEqual(ask_full(call), [-28])

    def test_the_17th_choice(self):
        self.assertEqual(ask(*[choice((3, 0))] * 17), [[k] for k in range(16)] + [[-28]])

    def test_out_of_bounds_is_named_first(self):
        bad = [choice(), named_choice([64]), named_choice([1], form=16), named_choice([1, 1]), named_choice([2, 1])]
        for call in bad + [named_choice(range(9))]:
            self.assertEqual(ask_full(call), [-22])

    def test_what_was_told_stays_as_it_was(self):
        forms = [num(5, 9), text(2), list_of(0, 2, 3), record((4, 0, 0), (6, 1, 1))]
        asked = [some(form) for form in range(4)]
        told = [[1, 0, 5], [1, 1, 0], [3, 2, 2, 0, 5, 0, 5], [2, 3, 1, 4, 0, 5]]
        self.assertEqual(ask_of(forms, *asked), told)
        behind = ask(*forms, choice((1, 0)), choice(), choice((1, 0), (0, 0)), *asked)
        self.assertEqual(behind, [[0], [1], [2], [3], [4], [-22], [-22]] + told)


if __name__ == "__main__":
    unittest.main()
