"""Point 1: begin and feature."""

import unittest

from tests.helper import (
    FEATURE_SETS, MOST, above, ask, ask_of, ask_rows, ask_rows_of, begin, below, best, compare, feature, order, path,
    telling, things, worst,
)

SIX = [([], 1), ([0], 2), ([1, 0], 9), ([2, 0, 1], 150), ([3], 1), ([], 0)]


def last_answer(features, on, wish):
    return ask_of(features, [feature(on, wish)])[0]


class Begin(unittest.TestCase):
    def test_answers_0(self):
        self.assertEqual(ask([begin()]), [0])
        self.assertEqual(ask([begin(), begin(), begin()]), [0, 0, 0])

    def test_takes_all_features_away(self):
        told = ask(telling(SIX) + [begin(), best(0, 0), best(1, 0), compare(1, 0), feature([0], 0), feature([], 1)])
        self.assertEqual(told[len(SIX) + 1:], [0, 0, -22, -22, -22, 0])

    def test_leaves_room_for_six_again(self):
        told = ask(telling(SIX) + telling(SIX) + [feature([], 0)])
        self.assertEqual(told, [0, 0, 1, 2, 3, 4, 5] * 2 + [-28])

    def test_the_earlier_wishes_are_forgotten(self):
        told = ask(telling([([], 1)]) + [best(0, 0)] + telling([([], 0)]) + [best(0, 0)])
        self.assertEqual(told, [0, 0, 1, 0, 0, 0])


class FeatureNumbers(unittest.TestCase):
    def test_numbers_in_order(self):
        self.assertEqual(ask(telling(SIX)), [0, 0, 1, 2, 3, 4, 5])
        for features in FEATURE_SETS:
            self.assertEqual(ask(telling(features)), [0] + list(range(len(features))))

    def test_full_at_six(self):
        self.assertEqual(ask(telling(SIX) + [feature([], 0), feature([5], 3), feature([5, 0, 2], 255)])[7:], [-28] * 3)

    def test_depends_on_whichever_is_there_in_whatever_order(self):
        for on in ([0], [4], [4, 0], [0, 4], [4, 3, 2], [0, 1, 2], [2, 4, 0]):
            self.assertEqual(last_answer(SIX[:5], on, 0), 5)


class FeatureRefused(unittest.TestCase):
    def test_on_is_too_long(self):
        self.assertEqual(last_answer(SIX[:3], [0, 1, 2], 0), 3)
        self.assertEqual(last_answer(SIX[:4], [0, 1, 2, 3], 0), -22)
        self.assertEqual(last_answer(SIX[:5], [4, 3, 2, 1, 0], 1), -22)
        self.assertEqual(last_answer(SIX[:5], [0, 1, 2, 3] * 15, 0), -22)
        self.assertEqual(last_answer([], [MOST] * 60, MOST), -22)

    def test_one_is_not_there_yet(self):
        for count in range(6):
            for missing in (count, count + 1, 60, MOST):
                self.assertEqual(last_answer(SIX[:count], [missing], 0), -22)
        for on in ([2, 0], [0, 2], [2, 0, 1], [0, 2, 1], [0, 1, 2]):
            self.assertEqual(last_answer(SIX[:2], on, 0), -22)

    def test_one_stands_there_twice(self):
        for on in ([0, 0], [1, 1], [0, 0, 1], [0, 1, 0], [1, 0, 0], [1, 1, 1]):
            self.assertEqual(last_answer(SIX[:2], on, 0), -22)

    def test_wish_is_too_large(self):
        for on, edge in (([], 2), ([0], 4), ([2], 4), ([0, 1], 16), ([2, 0], 16), ([0, 1, 2], 256), ([2, 0, 1], 256)):
            self.assertEqual(last_answer(SIX[:3], on, edge - 1), 3)
            for wish in (edge, edge + 1, 65536, MOST):
                self.assertEqual(last_answer(SIX[:3], on, wish), -22)

    def test_wrong_goes_ahead_of_full(self):
        for on, wish in (([0, 1, 2, 3], 0), ([6], 0), ([MOST], 0), ([1, 1], 0), ([], 2), ([0], 4), ([0, 1], 16),
                         ([0, 1, 2], 256)):
            self.assertEqual(last_answer(SIX, on, wish), -22)

    def test_changes_nothing(self):
        wrong = [feature([0, 1, 2, 3], 0), feature([60], 0), feature([0, 0], 0), feature([], 2), feature([], MOST)]
        for features in FEATURE_SETS:
            refused = list(wrong) + ([feature([], 1), feature([0], 2)] if len(features) == 6 else [])
            probes = probes_of(features)
            plain = ask_rows_of(features, probes)
            told = ask_rows(telling(features) + refused + probes)[len(features) + 1:]
            self.assertTrue(all(len(row) == 1 and row[0] < 0 for row in told[:len(refused)]))
            self.assertEqual(told[len(refused):], plain)

    def test_a_refused_one_takes_no_number(self):
        told = ask([begin(), feature([], 2), feature([0], 0), feature([], 1), feature([1], 0), feature([0], 2)])
        self.assertEqual(told, [0, -22, -22, 0, -22, 1])


def probes_of(features):
    """Calls that show what features there are; the last one tells the next number."""
    some = list(things(features))[:12]
    probes = [best(0, 0), worst(0, 0), best(2 ** len(features), 0), compare(0, 2 ** len(features))]
    probes += [best(a, b) for a in some for b in some[:4]]
    probes += [compare(a, b) for a in some for b in some]
    probes += [path(some[0], some[-1]), path(some[-1], some[0]), above(some[-1]), below(some[-1]), order()]
    return probes + [feature([], 0)]


if __name__ == "__main__":
    unittest.main()
