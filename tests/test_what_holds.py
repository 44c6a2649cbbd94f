"""What holds: a, b and e, over several sets of features, at every pair of things."""

import unittest

from tests.helper import (
    FEATURE_SETS, agrees, ask_of, best, compare, led_to, things, value, wanted, worst,
)


def table_of(features):
    """What the program itself answers at every pair."""
    pairs = [(a, b) for a in things(features) for b in things(features)]
    return dict(zip(pairs, ask_of(features, [compare(a, b) for a, b in pairs])))


class WhatHolds(unittest.TestCase):
    @classmethod
    def setUpClass(cls):
        cls.tables = [(features, table_of(features)) for features in FEATURE_SETS]

    def test_a_never_round(self):
        mirrored = {0: 0, 1: 2, 2: 1, 3: 3}
        for features, table in self.tables:
            for (a, b), told in table.items():
                self.assertEqual(table[b, a], mirrored[told])
                self.assertEqual(told == 0, a == b)

    def test_a_better_than_better_is_better(self):
        for features, table in self.tables:
            above = {b: {a for a in things(features) if table[a, b] == 1} for b in things(features)}
            for b in things(features):
                for a in above[b]:
                    self.assertLess(above[a], above[b])

    def test_b_the_best_there_is(self):
        for features, table in self.tables:
            pairs = [(given, values) for given in things(features) for values in things(features)
                     if values & ~given == 0]
            bests = ask_of(features, [best(given, values) for given, values in pairs])
            worsts = ask_of(features, [worst(given, values) for given, values in pairs])
            ways = {given: led_to(features, given) for given in things(features)}
            for (given, values), top, bottom in zip(pairs, bests, worsts):
                self.assertTrue(agrees(top, given, values) and agrees(bottom, given, values))
                for thing in things(features):
                    if agrees(thing, given, values):
                        self.assertEqual(table[top, thing], 0 if top == thing else 1)
                        self.assertEqual(table[thing, bottom], 0 if thing == bottom else 1)
                        self.assertTrue(top == thing or top in ways[given][thing])
                        self.assertTrue(thing == bottom or thing in ways[given][bottom])

    def test_e_all_else_alike(self):
        for features, table in self.tables:
            for thing in things(features):
                for k in range(len(features)):
                    as_wanted = value(thing, k) == wanted(features, k, thing)
                    self.assertEqual(table[thing, thing ^ 2 ** k], 1 if as_wanted else 2)


if __name__ == "__main__":
    unittest.main()
