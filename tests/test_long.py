"""Long lists of calls, and what is nested deep: they end in some seconds, without calls deep within one another."""

import inspect
import random
import sys
import time
import unittest

from tests.calls import (
    BEGIN, GREATEST, choice, difference, is_one, joined, list_of, named, num, record, some, text, within)
from tests.plain import calls_of, random_forms
from understood.desk import answers

MOST_SECONDS = 10


def choices_of(chance, highest):
    return choice(*[(name, chance.randint(0, highest)) for name in range(8)])


def fields_of(chance, highest):
    return record(*[(name, 1, chance.randint(0, highest)) for name in range(8)])


def lists_of(chance, highest):
    return list_of(chance.randint(0, highest), chance.randint(0, 6), 32)


def full_lists_of(chance, highest):
    return list_of(chance.randint(0, highest), 32, 32)


def needed_fields_of(chance, highest):
    return record(*[(name, chance.choice([0, 0, 1]), chance.randint(0, highest)) for name in range(8)])


def mixed_of(chance, highest):
    return chance.choice([choices_of, fields_of, lists_of, needed_fields_of])(chance, highest)


MAKERS = (choices_of, fields_of, lists_of, full_lists_of, needed_fields_of, mixed_of)


def rows_for(chance, count):
    rows = [[4, 0] * 99, [2, 1] * 99 + [2, 0], [3, 1, 7] * 66 + [3, 0], [3, 8] * 10, [0, 0], []]
    return [chance.choice(rows) for _ in range(count)]


class Long(unittest.TestCase):
    def check(self, calls):
        """Ends in time, changes nothing of the list, and gives the same again."""
        self.assertLessEqual(len(calls), 400)
        calls = joined(calls)
        self.assertLessEqual(len(calls), 30000)
        kept = list(calls)
        start = time.monotonic()
        given = answers(calls)
        self.assertLess(time.monotonic() - start, MOST_SECONDS)
        self.assertIsNone(difference(calls, kept))
        self.assertIsNone(difference(answers(calls), given))
        return given

    def test_all_pairs_of_16_forms(self):
        chance = random.Random(11)
        for make in MAKERS:
            forms = [make(chance, 15) for _ in range(15)] + [num(0, 1)]
            asked = [within(form, other) for form in range(16) for other in range(16)]
            asked += [some(form) for form in range(16)]
            asked += [is_one(chance.randrange(16), row) for row in rows_for(chance, 111)]
            self.check([BEGIN] + forms + asked)

    def test_one_pair_of_16_forms_again_and_again(self):
        chance = random.Random(12)
        for make in MAKERS:
            calls = []
            for _ in range(22):
                calls += [BEGIN] + [make(chance, 15) for _ in range(15)] + [num(0, 1)]
                calls.append(within(chance.randrange(16), chance.randrange(16)))
            self.check(calls)

    def test_a_form_and_a_question_in_turn(self):
        chance = random.Random(13)
        for make in MAKERS:
            calls = []
            for _ in range(12):
                calls += [BEGIN, num(0, 1)]
                for number in range(1, 16):
                    calls += [make(chance, number), within(number, chance.randint(0, number))]
            self.check(calls)

    def test_small_random_forms(self):
        chance = random.Random(14)
        for _ in range(20):
            forms = calls_of(random_forms(chance, 16))
            asked = [within(chance.randrange(16), chance.randrange(16)) for _ in range(383)]
            self.check([BEGIN] + forms + asked)

    def test_400_times_is_of_long_rows(self):
        forms = [list_of(0, 0, 32), choice((0, 1), (1, 0)), record((0, 1, 2), (1, 1, 0))]
        rows = [[2, 1] * 30 + [2, 0], [4, 0] * 30 + [4, 1, 2, 0], [3, 1, 0] * 22 + [3, 0], [2, 32] + [2, 0] * 32]
        asked = [is_one(k % 3, rows[k % 4]) for k in range(396)]
        given = self.check([BEGIN] + forms + asked)
        right = [[1, 0, 0, 1], [0, 1, 0, 0], [0, 0, 1, 0]]
        self.assertIsNone(difference(given[8:], [number for k in range(396) for number in (1, right[k % 3][k % 4])]))

    def test_28_times_is_of_rows_of_1000(self):
        rows = ([2, 1] * 500, [2, 32] * 500, [4, 0] * 500, [3, 1, 0] * 333 + [3], [1] * 1000, [GREATEST] * 1000)
        forms = [list_of(0, 0, 32), choice((0, 1), (1, 0)), record((0, 1, 2), (1, 1, 0)), text(100)]
        asked = [is_one(k % 4, rows[k % 6]) for k in range(28)]
        self.assertIsNone(difference(self.check([BEGIN] + forms + asked)[10:], [1, 0] * 28))

    def test_the_longest_answers(self):
        forms = [num(0, 1), list_of(0, 32, 32), list_of(1, 6, 6), choice((1, 2)), text(100), text(99)]
        forms += [list_of(4, 32, 32), list_of(5, 32, 32), named(range(2), form=6), named(range(2), form=7)]
        forms += [list_of(6, 3, 3), list_of(7, 3, 3)]
        given = self.check([BEGIN] + forms + [some(3), within(3, 4), within(8, 9), within(10, 11)] * 96)
        self.assertEqual(len(given), 26 + 96 * (402 + 402 + 238 + 302))


class Deep(unittest.TestCase):
    def test_calls_are_not_nested_as_deep_as_messages(self):
        forms = [choice((0, 0), (1, 3)), list_of(1, 0, 1), record((0, 1, 2)), num(0, 0)]
        asked = [is_one(0, [4, 0] * 198 + [4, 1, 0, 0]), is_one(1, [2, 1] * 199 + [2, 0]),
                 is_one(2, [3, 1, 0] * 199 + [3, 0]), is_one(0, [4, 0] * 500)]
        rounds = [choice((0, (k + 1) % 7), (1, 15)) if k == 6 else choice((0, (k + 1) % 7)) for k in range(7)]
        rounds += [choice((0, 7 + k + 1), (1, 15)) for k in range(7)] + [choice((0, 7)), num(3, 4)]
        calls = joined([BEGIN] + forms + asked + [BEGIN] + rounds + [within(0, 7), some(0)])
        limit = sys.getrecursionlimit()
        sys.setrecursionlimit(len(inspect.stack(0)) + 30)
        try:
            given = answers(calls)
        finally:
            sys.setrecursionlimit(limit)
        self.assertEqual(given[10:18], [1, 1, 1, 1, 1, 1, 1, 0])
        told = [115, 0] + [4, 0] * 55 + [4, 1, 0, 3] + [17, 8] + [4, 0] * 6 + [4, 1, 0, 3]
        self.assertEqual(given[-len(told):], told)


if __name__ == "__main__":
    unittest.main()
