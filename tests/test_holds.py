"""What the document says holds, whatever the forms are."""

import random
import unittest

from tests.calls import BEGIN, ask, ask_of, choice, is_one, list_of, num, record, some, text, within
from tests.plain import calls_of, random_forms, read


def refers_to(form):
    kind, *told = form
    if kind == "list":
        return told[:1]
    return [one[-1] for one in told] if kind in ("record", "choice") else []


class Holds(unittest.TestCase):
    def setUp(self):
        chance = random.Random(7)
        self.several = [random_forms(chance, size) for size in (2, 5, 9, 12, 14, 16, 16, 16, 16, 16, 16)]

    def pairs(self, forms):
        return [(form, other) for form in range(len(forms)) for other in range(len(forms))]

    def test_what_within_tells_is_one_of_the_first_and_none_of_the_second(self):
        shown = 0
        for forms in self.several:
            calls = calls_of(forms)
            pairs = self.pairs(forms)
            told = ask_of(calls, *[within(*pair) for pair in pairs])
            refused = [(pair, one[1:]) for pair, one in zip(pairs, told) if one[0] == 0]
            for (form, other), row in refused:
                self.assertEqual(ask_of(calls, is_one(form, row), is_one(other, row)), [[1], [0]])
            shown += len(refused)
        self.assertGreater(shown, 500)

    def test_what_some_tells_is_one_with_so_many_parts(self):
        for forms in self.several:
            calls = calls_of(forms)
            for form, (parts, *row) in enumerate(ask_of(calls, *[some(form) for form in range(len(forms))])):
                if parts != -6:
                    self.assertEqual(ask_of(calls, is_one(form, row)), [[1]])
                    self.assertEqual(read(forms, form, row, 0), (len(row), parts))

    def test_where_the_first_has_no_message(self):
        for forms in self.several:
            size = range(len(forms))
            told = ask_of(calls_of(forms), *[some(form) for form in size])
            for form in size:
                if told[form] == [-6]:
                    asked = [within(form, other) for other in size]
                    self.assertEqual(ask_of(calls_of(forms), *asked), [[1]] * len(size))

    def test_first_within_second_and_second_within_third(self):
        steps = 0
        for forms in self.several:
            pairs = self.pairs(forms)
            told = dict(zip(pairs, ask_of(calls_of(forms), *[within(*pair) for pair in pairs])))
            for first, second in pairs:
                for third in range(len(forms)):
                    if told[first, second] == [1] and told[second, third] == [1]:
                        self.assertEqual(told[first, third], [1], (forms, first, second, third))
                        steps += len({first, second, third}) == 3
        self.assertGreater(steps, 200)

    def test_a_chain_of_three(self):
        first = [record((1, 0, 3)), record((1, 1, 4)), record((1, 1, 5), (2, 1, 0)), num(4, 5), num(3, 5), num(3, 6)]
        told = ask_of(first, within(0, 1), within(1, 2), within(0, 2), within(2, 1), within(1, 0))
        self.assertEqual(told[:3], [[1]] * 3)
        self.assertEqual(told[3:], [[0, 3, 1, 1, 0, 6], [0, 3, 0]])


class ToldLater(unittest.TestCase):
    FORMS = [record((1, 0, 2), (2, 1, 0)), record((1, 0, 3), (2, 1, 1)), num(5, 9), num(5, 8), choice((1, 4), (2, 0))]
    ASKED = [some(0), some(1), some(4), within(0, 1), within(1, 0), within(4, 4), within(4, 0),
             is_one(0, [3, 1, 1, 0, 9]), is_one(1, [3, 1, 1, 0, 9])]

    def test_they_change_nothing(self):
        before = ask_of(self.FORMS, *self.ASKED)
        later = [num(5, 5), text(3), list_of(0, 0, 4), record((1, 0, 0)), choice((1, 1), (2, 2)), record(), num(0, 0)]
        calls = list(self.FORMS)
        for number, call in enumerate(later, start=5):
            told = ask(*calls, *self.ASKED, call, *self.ASKED)
            self.assertEqual(told, [[k] for k in range(number)] + before + [[number]] + before)
            calls.append(call)

    def test_what_was_asked_before_changes_nothing(self):
        chance = random.Random(8)
        for _ in range(40):
            forms = random_forms(chance, 8)
            calls = calls_of(forms)
            asked = [some(form) for form in range(8)]
            asked += [within(form, other) for form in range(8) for other in range(8)]
            chance.shuffle(asked)
            one_by_one = [ask_of(calls, call)[0] for call in asked]
            self.assertEqual(ask_of(calls, *asked), one_by_one)
            in_turn = [one for call in calls for one in [call] + asked[:20]]
            self.assertEqual(ask(*in_turn, *asked)[-len(asked):], one_by_one)

    def test_of_forms_that_refer_backwards(self):
        """Each form is asked for as soon as it is told, and again behind all the others."""
        chance = random.Random(9)
        checked = 0
        while checked < 30:
            forms = random_forms(chance, 6)
            if any(of > number for number, form in enumerate(forms) for of in refers_to(form)):
                continue
            checked += 1
            asked = [[some(number)] + [within(number, other) for other in range(number + 1)]
                     + [within(other, number) for other in range(number)] for number in range(6)]
            mixed = [call for call, questions in zip(calls_of(forms), asked) for call in [call] + questions]
            behind = [call for questions in asked for call in questions]
            told = ask(*mixed, BEGIN, *calls_of(forms), *behind)
            early = [one for call, one in zip(mixed, told) if call[0] in (7, 8)]
            self.assertEqual(early, told[-len(behind):])


if __name__ == "__main__":
    unittest.main()
