"""Point 6: order."""

import unittest

from tests.helper import (
    CHAIN, DETOUR, DINNER, FEATURE_SETS, ask_rows, ask_rows_of, begin, feature, large_sets, order, ordered, small_sets,
    telling, things,
)


def asked(features):
    return ask_rows_of(features, [order()])[0]


class Ordinary(unittest.TestCase):
    def test_no_features(self):
        self.assertEqual(asked([]), [1, 0])

    def test_one_feature(self):
        self.assertEqual(asked([([], 0)]), [2, 0, 1])
        self.assertEqual(asked([([], 1)]), [2, 1, 0])

    def test_all_can_be_compared(self):
        self.assertEqual(asked(DINNER), [4, 3, 1, 0, 2])

    def test_the_least_of_those_that_may_come(self):
        self.assertEqual(asked([([], 1), ([], 1)]), [4, 3, 1, 2, 0])
        # Behind 3 and 5 the 1 may come, and does so ahead of 6.
        self.assertEqual(asked([([], 1)] * 3), [8, 7, 3, 5, 1, 6, 2, 4, 0])
        # 0 and 5 may come both behind 4; 1 only behind both.
        self.assertEqual(asked(DETOUR), [8, 2, 6, 4, 0, 5, 1, 3, 7])

    def test_six_features(self):
        self.assertEqual(asked([([], 0)] * 6), [64] + list(range(64)))
        # Feature 5 makes the number least when it's given up, so it is so first and goes to and fro fastest.
        backwards = [int(f"{k:06b}"[::-1], 2) for k in range(64)]
        self.assertEqual(asked([([], 1)] * 6), [64] + [63 - thing for thing in backwards])

    def test_as_features_come_and_go(self):
        told = ask_rows([begin(), order(), feature([], 1), order(), feature([0], 4), order(), feature([0], 2), order(),
                         begin(), order()])
        self.assertEqual(told[1::2], [[1, 0], [2, 1, 0], [2, 1, 0], [4, 3, 1, 0, 2], [1, 0]])

    def test_asking_changes_nothing(self):
        for features in FEATURE_SETS:
            told = ask_rows(telling(features) + [order()] * 3)[len(features) + 1:]
            self.assertEqual(told, [told[0]] * 3)


class Everywhere(unittest.TestCase):
    def check(self, features):
        told = asked(features)
        self.assertEqual(told[0], 2 ** len(features))
        self.assertEqual(sorted(told[1:]), list(things(features)))
        self.assertEqual(told[1:], ordered(features), features)

    def test_every_thing(self):
        for features in FEATURE_SETS + [CHAIN]:
            self.check(features)

    def test_every_set_of_three(self):
        for features in small_sets():
            self.check(features)

    def test_larger_sets(self):
        for features in large_sets():
            self.check(features)


if __name__ == "__main__":
    unittest.main()
