"""Promise 1: begin."""

import unittest

from tests.calls import BEGIN, ask, difference, joined, list_of, num, record, text
from understood.desk import answers


class Begin(unittest.TestCase):
    def test_answers_0(self):
        self.assertEqual(answers([0]), [1, 0])

    def test_may_come_again_at_once(self):
        self.assertEqual(answers([0, 0, 0]), [1, 0, 1, 0, 1, 0])

    def test_numbers_start_anew(self):
        told = ask(num(1, 2), text(3), BEGIN, list_of(0, 0, 1), record(), BEGIN, text(0))
        self.assertEqual(told, [[0], [1], [0], [0], [1], [0], [0]])

    def test_16_forms_are_gone(self):
        told = ask(*([num(0, 0)] * 17 + [BEGIN] + [text(1)] * 17))
        once = [[k] for k in range(16)] + [[-28]]
        self.assertEqual(told, once + [[0]] + once)

    def test_begin_behind_a_refusal(self):
        self.assertEqual(ask(num(0, 0), num(1, 0), BEGIN, num(1, 0), num(0, 1)), [[0], [-22], [0], [-22], [0]])

    def test_400_times(self):
        self.assertIsNone(difference(answers(joined([BEGIN] * 400)), [1, 0] * 400))


if __name__ == "__main__":
    unittest.main()
