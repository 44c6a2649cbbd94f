"""Point 3: compare."""

import unittest

from tests.helper import (
    DETOUR, DINNER, FEATURE_SETS, MOST, ask_of, best, compare, compared, things,
)


def asked(features, a, b):
    return ask_of(features, [compare(a, b)])[0]


class Ordinary(unittest.TestCase):
    def test_the_same(self):
        self.assertEqual(ask_of(DINNER, [compare(a, a) for a in range(4)]), [0] * 4)
        self.assertEqual(asked([], 0, 0), 0)

    def test_one_change(self):
        self.assertEqual(asked(DINNER, 0b11, 0b10), 1)
        self.assertEqual(asked(DINNER, 0b10, 0b11), 2)
        self.assertEqual(asked(DINNER, 0b00, 0b10), 1)
        self.assertEqual(asked(DINNER, 0b10, 0b00), 2)

    def test_several_changes(self):
        # The changes for the better are 2 to 0, 0 to 1, 1 to 3, and 2 to 3.
        self.assertEqual(asked(DINNER, 1, 2), 1)
        self.assertEqual(asked(DINNER, 2, 1), 2)
        self.assertEqual(asked(DINNER, 3, 0), 1)
        self.assertEqual(asked(DINNER, 0, 3), 2)
        six = [([], 1)] * 6
        self.assertEqual(asked(six, 0b111111, 0), 1)
        self.assertEqual(asked(six, 0, 0b111111), 2)

    def test_neither(self):
        features = [([], 1), ([], 1)]
        self.assertEqual(ask_of(features, [compare(1, 2), compare(2, 1)]), [3, 3])
        self.assertEqual(ask_of(features, [compare(3, 0), compare(0, 3)]), [1, 2])
        six = [([], 1)] * 6
        self.assertEqual(asked(six, 0b000111, 0b001001), 3)

    def test_through_things_that_differ_in_more(self):
        # 3 and 6 both have feature 1, but between them it has to go and come back.
        self.assertEqual(asked(DETOUR, 6, 3), 1)
        self.assertEqual(asked(DETOUR, 3, 6), 2)
        turned = [([], 0), ([0], 2), ([1], 1)]
        self.assertEqual(asked(turned, 0, 5), 1)
        self.assertEqual(asked(turned, 5, 0), 2)


class Everywhere(unittest.TestCase):
    def test_every_pair(self):
        met = set()
        for features in FEATURE_SETS:
            table = compared(features)
            pairs = [(a, b) for a in things(features) for b in things(features)]
            told = ask_of(features, [compare(a, b) for a, b in pairs])
            self.assertEqual(dict(zip(pairs, told)), table)
            met.update(told)
        self.assertEqual(met, {0, 1, 2, 3})


class Refused(unittest.TestCase):
    def test_a_bit_of_no_feature(self):
        for features in FEATURE_SETS:
            count = len(features)
            for number in (2 ** count, 2 ** (count + 1) - 1, 2 ** (count + 1), 2 ** 31, MOST):
                calls = [compare(number, 0), compare(0, number), compare(number, number)]
                self.assertEqual(ask_of(features, calls), [-22] * 3)

    def test_changes_nothing(self):
        calls = [compare(4, 0), compare(0, MOST), compare(3, 2), compare(2, 3), best(0, 0), compare(4, 0)]
        self.assertEqual(ask_of(DINNER, calls), [-22, -22, 1, 2, 3, -22])


if __name__ == "__main__":
    unittest.main()
