"""Point 4: path."""

import unittest

from tests.helper import (
    CHAIN, DETOUR, DINNER, FEATURE_SETS, MOST, ask_rows_of, best, compare, large_sets, order, path, shortest_rows,
    small_sets, things,
)


def asked(features, start_at, end_at):
    return ask_rows_of(features, [path(start_at, end_at)])[0]


class Ordinary(unittest.TestCase):
    def test_to_itself(self):
        for features in FEATURE_SETS:
            calls = [path(thing, thing) for thing in things(features)]
            self.assertEqual(ask_rows_of(features, calls), [[0]] * len(calls))

    def test_one_change(self):
        self.assertEqual(asked(DINNER, 0b10, 0b00), [1, 1])
        self.assertEqual(asked(DINNER, 0b00, 0b01), [1, 0])
        self.assertEqual(asked(DINNER, 0b01, 0b11), [1, 1])

    def test_several_changes(self):
        # Meat with red: fish first, and only then white.
        self.assertEqual(asked(DINNER, 0b00, 0b11), [2, 0, 1])
        # Meat with white: red first, as with fish there is no change for the better to red.
        self.assertEqual(asked(DINNER, 0b10, 0b01), [2, 1, 0])

    def test_as_few_as_can_be(self):
        # From 2 to 3 one comes by 0 and 1 too.
        self.assertEqual(asked(DINNER, 0b10, 0b11), [1, 0])
        # The row 1, 2, 0, 1 begins with less, but is longer.
        self.assertEqual(asked([([], 0), ([0], 1), ([0], 1)], 7, 2), [2, 2, 0])

    def test_longer_than_the_difference(self):
        # 3 and 6 differ in features 0 and 2, but feature 1 has to go and come back.
        self.assertEqual(asked(DETOUR, 3, 6), [4, 1, 0, 2, 1])
        # 58 and 23 differ in four features.
        self.assertEqual(asked(CHAIN, 58, 23), [12, 3, 2, 1, 0, 4, 3, 2, 1, 5, 4, 3, 2])


class Earliest(unittest.TestCase):
    def test_least_first_where_all_orders_do(self):
        six = [([], 1)] * 6
        self.assertEqual(asked(six, 0, 63), [6, 0, 1, 2, 3, 4, 5])
        self.assertEqual(asked(six, 0b010010, 0b111011), [3, 0, 3, 5])
        self.assertEqual(asked([([], 0)] * 6, 63, 0), [6, 0, 1, 2, 3, 4, 5])

    def test_least_first_of_those_that_are_as_few(self):
        # As few as can be are 2, 0, 3 and 3, 2, 0; a longer row begins with 1.
        self.assertEqual(asked([([], 1), ([0], 2), ([1, 0], 6), ([2, 0], 9)], 2, 15), [3, 2, 0, 3])

    def test_the_first_goes_ahead_of_the_last(self):
        # As few as can be are 2, 3, 0 and 3, 0, 2 and 3, 2, 0.
        self.assertEqual(asked([([], 0), ([0], 1), ([], 0), ([0, 2, 1], 80)], 15, 2), [3, 2, 3, 0])


class Everywhere(unittest.TestCase):
    def check(self, features):
        rows = shortest_rows(features)
        pairs = [(a, b) for a in things(features) for b in things(features)]
        for (a, b), told in zip(pairs, ask_rows_of(features, [path(a, b) for a, b in pairs])):
            row = rows.get((a, b))
            self.assertEqual(told, [-6] if row is None else [len(row), *row], (features, a, b))

    def test_every_pair(self):
        for features in FEATURE_SETS + [CHAIN]:
            self.check(features)

    def test_every_set_of_three(self):
        for features in small_sets():
            self.check(features)

    def test_larger_sets(self):
        for features in large_sets():
            self.check(features)


class Refused(unittest.TestCase):
    def test_from_is_rather_had_than_to(self):
        self.assertEqual(ask_rows_of(DINNER, [path(3, 2), path(1, 2), path(3, 0), path(0, 2)]), [[-6]] * 4)
        self.assertEqual(asked(DETOUR, 6, 3), [-6])

    def test_neither_is_rather_had(self):
        self.assertEqual(ask_rows_of([([], 1), ([], 1)], [path(1, 2), path(2, 1)]), [[-6]] * 2)

    def test_a_bit_of_no_feature(self):
        for features in FEATURE_SETS:
            count = len(features)
            for number in (2 ** count, 2 ** (count + 1) - 1, 2 ** (count + 1), 2 ** 31, MOST):
                calls = [path(number, 0), path(0, number), path(number, 2 ** count - 1), path(2 ** count - 1, number),
                         path(number, number)]
                self.assertEqual(ask_rows_of(features, calls), [[-22]] * 5)

    def test_changes_nothing(self):
        calls = [path(4, 0), path(3, 2), path(MOST, MOST), best(0, 0), compare(3, 2), path(2, 1), order(), path(4, 0)]
        told = [[-22], [-6], [-22], [3], [1], [2, 1, 0], [4, 3, 1, 0, 2], [-22]]
        self.assertEqual(ask_rows_of(DINNER, calls), told)


if __name__ == "__main__":
    unittest.main()
