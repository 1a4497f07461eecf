"""Promise 2: at most 16 forms, whatever they are; a refusal changes nothing."""

import unittest

from tests.calls import ask, choice, list_of, named, num, record, text

GOOD = (num(0, 5), text(5), list_of(0, 0, 5), record((1, 0, 0), (2, 1, 3)), choice((1, 0), (2, 3)))
BAD = (num(5, 0), text(101), list_of(16, 0, 5), list_of(0, 1, 0), list_of(0, 0, 33),
       named(range(9)), named([64]), named([1], form=16), named([1, 1]), named([2, 1]),
       choice(), choice((64, 0)), choice((1, 16)), choice((1, 0), (1, 0)), choice((2, 0), (1, 0)))


class Room(unittest.TestCase):
    def test_16_are_taken_and_the_17th_is_not(self):
        for call in GOOD:
            self.assertEqual(ask(*[call] * 17), [[k] for k in range(16)] + [[-28]])

    def test_16_of_several_kinds(self):
        told = ask(*(list(GOOD) * 4))
        self.assertEqual(told, [[k] for k in range(16)] + [[-28]] * 4)

    def test_out_of_bounds_changes_nothing(self):
        for bad in BAD:
            for good in GOOD:
                self.assertEqual(ask(bad, good, bad, bad, good), [[-22], [0], [-22], [-22], [1]])

    def test_out_of_bounds_takes_no_room(self):
        for bad in BAD:
            told = ask(*([bad] * 20 + [num(0, 0)] * 16 + [bad, num(0, 0)]))
            self.assertEqual(told, [[-22]] * 20 + [[k] for k in range(16)] + [[-22], [-28]])

    def test_no_room_stays_no_room(self):
        told = ask(*([text(1)] * 16 + list(GOOD) + list(BAD) + list(GOOD)))
        self.assertEqual(told[16:], [[-28]] * len(GOOD) + [[-22]] * len(BAD) + [[-28]] * len(GOOD))


if __name__ == "__main__":
    unittest.main()
