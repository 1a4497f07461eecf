"""Promises 3 to 5: what is, some and within refuse, and which refusal comes first."""

import unittest

from tests.calls import BEGIN, GREATEST, ask, ask_of, choice, is_one, list_of, num, record, some, text, within

NUMBER = num(0, 3)
# Of each way to refer to a form, one that refers to form 2.
REFERRING = (
    list_of(2, 0, 1), list_of(2, 0, 0), list_of(2, 1, 1), record((5, 1, 2)), record((5, 0, 2)),
    record((4, 0, 0), (5, 1, 2), (6, 0, 0)), choice((5, 2)), choice((4, 0), (5, 2)))


def all_asked_of(form):
    return [is_one(form, [0, 1]), some(form), within(form, form), within(form, 0), within(0, form)]


class NoForm(unittest.TestCase):
    def test_no_form_at_all(self):
        self.assertEqual(ask(*all_asked_of(0)), [[-2]] * 5)

    def test_just_above_the_last(self):
        self.assertEqual(ask_of([NUMBER] * 3, *all_asked_of(3)), [[-2]] * 5)
        self.assertEqual(ask_of([NUMBER] * 3, *all_asked_of(2)), [[1], [1, 0, 0], [1], [1], [1]])

    def test_16_forms(self):
        self.assertEqual(ask_of([NUMBER] * 16, *all_asked_of(16)), [[-2]] * 5)
        self.assertEqual(ask_of([NUMBER] * 16, *all_asked_of(15)), [[1], [1, 0, 0], [1], [1], [1]])

    def test_greatest_number(self):
        self.assertEqual(ask_of([NUMBER], *all_asked_of(GREATEST)), [[-2]] * 5)

    def test_is_of_no_form_passes_its_whole_row(self):
        self.assertEqual(ask(is_one(0, [0] * 1000), is_one(0, []), NUMBER), [[-2], [-2], [0]])

    def test_a_form_that_was_refused_is_not_there(self):
        self.assertEqual(ask(num(3, 0), choice(), *all_asked_of(0)), [[-22], [-22]] + [[-2]] * 5)


class NotAllTold(unittest.TestCase):
    def test_each_way_to_refer(self):
        for call in REFERRING:
            self.assertEqual(ask_of([NUMBER, call], *all_asked_of(1)), [[-61]] * 5, call)

    def test_where_another_form_is_asked_for(self):
        for call in REFERRING:
            self.assertEqual(ask_of([NUMBER, call], *all_asked_of(0)), [[-61]] * 5, call)

    def test_told_later_it_is_there(self):
        for call in REFERRING:
            told = ask(NUMBER, call, some(0), text(1), *all_asked_of(0))
            self.assertEqual(told, [[0], [1], [-61], [2], [1], [1, 0, 0], [1], [1], [1]], call)

    def test_one_is_told_and_another_is_lacking(self):
        self.assertEqual(ask_of([NUMBER, choice((1, 2), (2, 4)), NUMBER, NUMBER], some(0)), [[-61]])
        self.assertEqual(ask_of([NUMBER, choice((1, 2), (2, 4)), NUMBER, NUMBER, NUMBER], some(0)), [[1, 0, 0]])

    def test_form_15(self):
        self.assertEqual(ask_of([list_of(15, 0, 0)] + [NUMBER] * 14, some(1)), [[-61]])
        self.assertEqual(ask_of([list_of(15, 0, 0)] + [NUMBER] * 15, some(1)), [[1, 0, 0]])

    def test_no_form_is_named_first(self):
        for call in REFERRING:
            self.assertEqual(ask_of([NUMBER, call], *all_asked_of(2)), [[-2]] * 5, call)

    def test_it_comes_before_no_message(self):
        self.assertEqual(ask_of([choice((0, 0)), list_of(2, 0, 1)], some(0)), [[-61]])

    def test_it_comes_again_behind_answers(self):
        told = ask(NUMBER, *all_asked_of(0), list_of(2, 0, 1), *all_asked_of(0))
        self.assertEqual(told, [[0], [1], [1, 0, 0], [1], [1], [1], [1]] + [[-61]] * 5)


class NoMessage(unittest.TestCase):
    def test_some(self):
        for call in (choice((0, 0)), record((3, 0, 0)), list_of(0, 1, 2)):
            self.assertEqual(ask_of([call], some(0)), [[-6]])

    def test_the_other_calls_have_no_such_refusal(self):
        self.assertEqual(ask_of([choice((0, 0))], is_one(0, [4, 0]), within(0, 0)), [[0], [1]])


class BeginAgain(unittest.TestCase):
    def test_nothing_of_the_forms_before_is_left(self):
        told = ask(NUMBER, list_of(0, 1, 1), *all_asked_of(1), BEGIN, *all_asked_of(0))
        self.assertEqual(told[-5:], [[-2]] * 5)

    def test_a_lacking_form_of_before_lacks_no_more(self):
        self.assertEqual(ask(list_of(7, 0, 1), some(0), BEGIN, NUMBER, some(0)), [[0], [-61], [0], [0], [1, 0, 0]])

    def test_what_was_answered_of_other_forms_is_not_answered_again(self):
        asked = [some(0), some(1), within(0, 1), within(1, 0), is_one(0, [0, 3])]
        told = ask(num(0, 3), num(1, 3), *asked, BEGIN, num(3, 4), num(3, 3), *asked, BEGIN, text(0), text(1), *asked)
        self.assertEqual(told, [
            [0], [1], [1, 0, 0], [1, 0, 1], [0, 0, 0], [1], [1],
            [0], [0], [1], [1, 0, 3], [1, 0, 3], [0, 0, 4], [1], [1],
            [0], [0], [1], [1, 1, 0], [1, 1, 0], [1], [0, 1, 1, 0], [0]])


if __name__ == "__main__":
    unittest.main()
