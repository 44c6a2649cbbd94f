"""Point 5: above and below."""

import unittest

from tests.helper import (
    CHAIN, DETOUR, DINNER, FEATURE_SETS, MOST, above, ask, ask_of, begin, below, best, compare, large_sets, led_to,
    small_sets, telling, things, worst,
)


def aboves(features):
    return ask_of(features, [above(a) for a in things(features)])


def belows(features):
    return ask_of(features, [below(a) for a in things(features)])


class Ordinary(unittest.TestCase):
    def test_no_features(self):
        self.assertEqual(ask_of([], [above(0), below(0)]), [0, 0])

    def test_one_feature(self):
        self.assertEqual(aboves([([], 0)]), [0, 1])
        self.assertEqual(belows([([], 0)]), [1, 0])
        self.assertEqual(aboves([([], 1)]), [1, 0])
        self.assertEqual(belows([([], 1)]), [0, 1])

    def test_all_can_be_compared(self):
        # From the worst to the best: 2, 0, 1, 3.
        self.assertEqual(aboves(DINNER), [2, 1, 3, 0])
        self.assertEqual(belows(DINNER), [1, 2, 0, 3])

    def test_some_can_not_be_compared(self):
        self.assertEqual(aboves([([], 1), ([], 1)]), [3, 1, 1, 0])
        self.assertEqual(belows([([], 1), ([], 1)]), [0, 1, 1, 3])
        # 0 and 5 alone can't be compared.
        self.assertEqual(aboves(DETOUR), [3, 5, 0, 6, 2, 3, 1, 7])
        self.assertEqual(belows(DETOUR), [3, 2, 7, 1, 5, 3, 6, 0])

    def test_six_that_depend_on_none(self):
        six = [([], 1)] * 6
        self.assertEqual(ask_of(six, [above(0), above(0b000111), above(0b011111), above(63)]), [63, 7, 1, 0])
        self.assertEqual(ask_of(six, [below(0), below(0b000111), below(0b011111), below(63)]), [0, 7, 31, 63])

    def test_behind_a_second_begin(self):
        told = ask(telling(DETOUR) + [above(7), begin(), above(0), below(0), above(1), below(7)])
        self.assertEqual(told[4:], [7, 0, 0, 0, -22, -22])


class Everywhere(unittest.TestCase):
    def check(self, features):
        better = led_to(features)
        self.assertEqual(aboves(features), [len(better[a]) for a in things(features)], features)
        self.assertEqual(belows(features), [sum(a in better[b] for b in better) for a in things(features)], features)

    def test_every_thing(self):
        for features in FEATURE_SETS + [CHAIN]:
            self.check(features)

    def test_every_set_of_three(self):
        for features in small_sets():
            self.check(features)

    def test_larger_sets(self):
        for features in large_sets():
            self.check(features)

    def test_as_compare_tells(self):
        for features in FEATURE_SETS:
            for a in things(features):
                told = ask_of(features, [compare(b, a) for b in things(features)] + [above(a), below(a)])
                self.assertEqual(told[-2:], [told[:-2].count(1), told[:-2].count(2)])

    def test_all_others_beside_the_best_and_the_worst(self):
        for features in FEATURE_SETS:
            top, bottom = ask_of(features, [best(0, 0), worst(0, 0)])
            others = 2 ** len(features) - 1
            calls = [above(top), below(top), above(bottom), below(bottom)]
            self.assertEqual(ask_of(features, calls), [0, others, others, 0])


class Refused(unittest.TestCase):
    def test_a_bit_of_no_feature(self):
        for features in FEATURE_SETS:
            count = len(features)
            for number in (2 ** count, 2 ** (count + 1) - 1, 2 ** (count + 1), 2 ** 31, MOST):
                self.assertEqual(ask_of(features, [above(number), below(number)]), [-22] * 2)
            self.assertTrue(min(ask_of(features, [above(2 ** count - 1), below(2 ** count - 1)])) >= 0)

    def test_changes_nothing(self):
        calls = [above(4), below(MOST), above(2), below(3), best(0, 0), above(4), below(4)]
        self.assertEqual(ask_of(DINNER, calls), [-22, -22, 3, 3, 3, -22, -22])


if __name__ == "__main__":
    unittest.main()
