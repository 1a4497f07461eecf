"""is, some and within, held against plain ways of going through the messages of small random forms."""

import random
import unittest

from tests.calls import ask_of, is_one, some, within
from tests.plain import all_rows, calls_of, plainly_is, random_forms, read, spoilt


class AgainstPlain(unittest.TestCase):
    def check_some(self, forms, found):
        given = ask_of(calls_of(forms), *[some(form) for form in found])
        for form, told in enumerate(given):
            for parts, rows in found[form].items():
                if rows:
                    self.assertEqual(told, [parts] + min(rows), (forms, form))
                    break
            else:
                self.assertTrue(told == [-6] or told[0] > len(found[form]), (forms, form, told))

    def check_within(self, forms, found):
        pairs = [(form, other) for form in found for other in found]
        given = ask_of(calls_of(forms), *[within(*pair) for pair in pairs])
        shown = 0
        for (form, other), told in zip(pairs, given):
            for parts, rows in found[form].items():
                taken = set(map(tuple, found[other][parts]))
                refused = [row for row in rows if tuple(row) not in taken]
                if refused:
                    self.assertEqual(told, [0] + min(refused), (forms, form, other))
                    shown += 1
                    break
            else:
                self.check_beyond(forms, form, other, told, len(found[form]))
        return shown

    def check_beyond(self, forms, form, other, told, searched):
        """What shows the difference has more parts than were gone through, if there is such a message."""
        if told == [1]:
            return
        self.assertEqual(told[0], 0)
        self.assertGreater(read(forms, form, told[1:], 0)[1], searched, (forms, form, other))
        self.assertTrue(plainly_is(forms, form, told[1:]), (forms, form, other))
        self.assertFalse(plainly_is(forms, other, told[1:]), (forms, form, other))

    def test_some_and_within(self):
        chance = random.Random(1)
        shown = 0
        for _ in range(500):
            forms = random_forms(chance, chance.randint(1, 7))
            found = all_rows(forms, 7)
            self.check_some(forms, found)
            shown += self.check_within(forms, found)
        self.assertGreater(shown, 3000)

    def test_is(self):
        chance = random.Random(2)
        counts = {True: 0, False: 0}
        for _ in range(150):
            forms = random_forms(chance, chance.randint(1, 7))
            rows = [row for by_parts in all_rows(forms, 6).values() for some_rows in by_parts.values()
                    for row in some_rows]
            rows = chance.sample(rows, min(20, len(rows)))
            rows += [spoilt(chance, row) for row in rows]
            pairs = [(form, row) for form in range(len(forms)) for row in rows]
            given = ask_of(calls_of(forms), *[is_one(*pair) for pair in pairs])
            for (form, row), told in zip(pairs, given):
                expected = plainly_is(forms, form, row)
                counts[expected] += 1
                self.assertEqual(told, [int(expected)], (forms, form, row))
        self.assertGreater(min(counts.values()), 2000)


if __name__ == "__main__":
    unittest.main()
