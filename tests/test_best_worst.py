"""Point 2: best and worst."""

import unittest

from tests.helper import (
    DINNER, FEATURE_SETS, MOST, agrees, ask_of, best, compare, led_to, things, worst,
)


def asked(features, call, given, values):
    return ask_of(features, [call(given, values)])[0]


class Ordinary(unittest.TestCase):
    def test_nothing_given(self):
        self.assertEqual(asked(DINNER, best, 0, 0), 0b11)
        self.assertEqual(asked(DINNER, worst, 0, 0), 0b10)

    def test_some_given(self):
        # Meat is given: rather red; the worst is white.
        self.assertEqual(asked(DINNER, best, 0b01, 0b00), 0b00)
        self.assertEqual(asked(DINNER, worst, 0b01, 0b00), 0b10)
        # Fish is given: rather white; the worst is red.
        self.assertEqual(asked(DINNER, best, 0b01, 0b01), 0b11)
        self.assertEqual(asked(DINNER, worst, 0b01, 0b01), 0b01)
        # The wine is given: rather fish, whichever wine it is.
        self.assertEqual(asked(DINNER, best, 0b10, 0b00), 0b01)
        self.assertEqual(asked(DINNER, worst, 0b10, 0b10), 0b10)

    def test_all_given(self):
        for features in FEATURE_SETS:
            every = 2 ** len(features) - 1
            for call in (best, worst):
                calls = [call(every, values) for values in things(features)]
                self.assertEqual(ask_of(features, calls), list(things(features)))

    def test_no_features(self):
        self.assertEqual(ask_of([], [best(0, 0), worst(0, 0)]), [0, 0])

    def test_six_that_depend_on_none(self):
        features = [([], 1), ([], 1), ([], 0), ([], 1), ([], 0), ([], 0)]
        self.assertEqual(asked(features, best, 0, 0), 0b001011)
        self.assertEqual(asked(features, worst, 0, 0), 0b110100)
        self.assertEqual(asked(features, best, 0b100001, 0b100000), 0b101010)
        self.assertEqual(asked(features, worst, 0b100001, 0b000001), 0b010101)


class Ways(unittest.TestCase):
    """The last feature's wish has one bit alone, so each way shows which bit is asked for."""

    def check(self, count, on, weights):
        before = [([], 0)] * count
        for way in range(2 ** len(on)):
            features = before + [(on, 2 ** way)]
            for values in range(2 ** count):
                here = sum(weight for other, weight in weights.items() if values >> other & 1)
                top = 2 ** count
                given = 2 ** count - 1
                self.assertEqual(asked(features, best, given, values), values + (top if here == way else 0))
                self.assertEqual(asked(features, worst, given, values), values + (0 if here == way else top))

    def test_on_one(self):
        self.check(1, [0], {0: 1})
        self.check(3, [1], {1: 1})

    def test_on_two(self):
        self.check(2, [0, 1], {0: 1, 1: 2})
        self.check(2, [1, 0], {1: 1, 0: 2})
        self.check(4, [3, 1], {3: 1, 1: 2})

    def test_on_three(self):
        self.check(3, [0, 1, 2], {0: 1, 1: 2, 2: 4})
        self.check(3, [2, 1, 0], {2: 1, 1: 2, 0: 4})
        self.check(3, [1, 2, 0], {1: 1, 2: 2, 0: 4})
        self.check(4, [2, 0, 3], {2: 1, 0: 2, 3: 4})


class Values(unittest.TestCase):
    def test_bits_that_are_not_given_do_not_count(self):
        for features in FEATURE_SETS[:8]:
            pairs = [(given, values) for given in things(features) for values in things(features)]
            for call in (best, worst):
                loose = ask_of(features, [call(given, values) for given, values in pairs])
                tight = ask_of(features, [call(given, values & given) for given, values in pairs])
                self.assertEqual(loose, tight)

    def test_written_out(self):
        self.assertEqual(asked(DINNER, best, 0b00, 0b00), 0b11)
        self.assertEqual(asked(DINNER, best, 0b01, 0b10), 0b00)
        self.assertEqual(asked(DINNER, worst, 0b10, 0b01), 0b00)


class Everywhere(unittest.TestCase):
    def test_none_is_better_or_worse_with_what_is_given(self):
        for features in FEATURE_SETS:
            pairs = [(given, values) for given in things(features) for values in things(features)
                     if values & ~given in (0, 1, 2)]
            bests = ask_of(features, [best(given, values) for given, values in pairs])
            worsts = ask_of(features, [worst(given, values) for given, values in pairs])
            tables = {given: led_to(features, given) for given in things(features)}
            for (given, values), top, bottom in zip(pairs, bests, worsts):
                ways = tables[given]
                alike = [thing for thing in things(features) if agrees(thing, given, values)]
                self.assertEqual([thing for thing in alike if not ways[thing]], [top])
                self.assertEqual([thing for thing in alike if not any(thing in ways[a] for a in alike)], [bottom])


class Refused(unittest.TestCase):
    def test_a_bit_of_no_feature(self):
        for features in FEATURE_SETS:
            count = len(features)
            every = 2 ** count - 1
            for number in (2 ** count, every + 2 ** count, 2 ** (count + 1), 2 ** 31, MOST):
                for call in (best, worst):
                    calls = [call(number, 0), call(0, number), call(number, number), call(every, number),
                             call(number, every)]
                    self.assertEqual(ask_of(features, calls), [-22] * 5)
            self.assertTrue(min(ask_of(features, [best(every, every), worst(every, every)])) >= 0)

    def test_changes_nothing(self):
        calls = [best(4, 0), worst(0, MOST), best(0, 0), worst(0, 0), compare(1, 2), best(4, 0)]
        self.assertEqual(ask_of(DINNER, calls), [-22, -22, 3, 2, 1, -22])


if __name__ == "__main__":
    unittest.main()
