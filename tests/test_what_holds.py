"""What holds, a to e, over several sets of features, at every pair of things."""

import unittest

from tests.helper import (
    FEATURE_SETS, agrees, ask_of, ask_rows_of, best, compare, every_row, large_sets, led_to, order, path, things, value,
    wanted, worst,
)

SETS = FEATURE_SETS + large_sets()[:6]


def table_of(features):
    """What the program itself answers at every pair."""
    pairs = [(a, b) for a in things(features) for b in things(features)]
    return dict(zip(pairs, ask_of(features, [compare(a, b) for a, b in pairs])))


def paths_of(features):
    """What the program itself answers to path at every pair."""
    pairs = [(a, b) for a in things(features) for b in things(features)]
    return dict(zip(pairs, ask_rows_of(features, [path(a, b) for a, b in pairs])))


class WhatHolds(unittest.TestCase):
    @classmethod
    def setUpClass(cls):
        cls.tables = [(features, table_of(features)) for features in SETS]
        cls.paths = [paths_of(features) for features in SETS]

    def test_the_sets_have_one_two_and_three_to_depend_on(self):
        met = {len(on) for features in SETS for on, wish in features}
        self.assertEqual(met, {0, 1, 2, 3})

    def test_a_never_round(self):
        mirrored = {0: 0, 1: 2, 2: 1, 3: 3}
        for features, table in self.tables:
            for (a, b), told in table.items():
                self.assertEqual(table[b, a], mirrored[told])
                self.assertEqual(told == 0, a == b)

    def test_a_better_than_better_is_better(self):
        for features, table in self.tables:
            above = {b: {a for a in things(features) if table[a, b] == 1} for b in things(features)}
            for b in things(features):
                for a in above[b]:
                    self.assertLess(above[a], above[b])

    def test_a_no_path_back(self):
        for paths in self.paths:
            for (a, b), told in paths.items():
                if a != b and told != [-6]:
                    self.assertEqual(paths[b, a], [-6])

    def test_a_no_path_comes_by_a_thing_twice(self):
        for paths in self.paths:
            for (a, b), told in paths.items():
                met = [a]
                for k in told[1:]:
                    met.append(met[-1] ^ 2 ** k)
                self.assertEqual(len(set(met)), len(met))

    def test_b_the_best_there_is(self):
        for features, table in self.tables:
            pairs = [(given, values) for given in things(features) for values in things(features)
                     if values & ~given == 0]
            bests = ask_of(features, [best(given, values) for given, values in pairs])
            worsts = ask_of(features, [worst(given, values) for given, values in pairs])
            ways = {given: led_to(features, given) for given in things(features)}
            for (given, values), top, bottom in zip(pairs, bests, worsts):
                self.assertTrue(agrees(top, given, values) and agrees(bottom, given, values))
                for thing in things(features):
                    if agrees(thing, given, values):
                        self.assertEqual(table[top, thing], 0 if top == thing else 1)
                        self.assertEqual(table[thing, bottom], 0 if thing == bottom else 1)
                        self.assertTrue(top == thing or top in ways[given][thing])
                        self.assertTrue(thing == bottom or thing in ways[given][bottom])

    def test_c_there_is_a_path_to_what_is_rather_had_alone(self):
        for (features, table), paths in zip(self.tables, self.paths):
            for (a, b), told in paths.items():
                self.assertEqual(told == [-6], table[a, b] in (1, 3))
                self.assertEqual(told == [0], a == b)

    def test_c_each_change_is_for_the_better_and_leads_there(self):
        for (features, table), paths in zip(self.tables, self.paths):
            for (a, b), told in paths.items():
                if told == [-6]:
                    continue
                self.assertEqual(told[0], len(told) - 1)
                here = a
                for k in told[1:]:
                    self.assertNotEqual(value(here, k), wanted(features, k, here))
                    here ^= 2 ** k
                self.assertEqual(here, b)

    def test_c_the_shortest_and_the_earliest_of_all_rows(self):
        for features, paths in zip(SETS, self.paths):
            for a in things(features):
                for b, rows in every_row(features, a).items():
                    shortest = min((len(row), row) for row in rows) if rows else (-6, ())
                    self.assertEqual(paths[a, b], [shortest[0], *shortest[1]])

    def test_d_everything_once_and_what_is_rather_had_ahead(self):
        for features, table in self.tables:
            told = ask_rows_of(features, [order()])[0]
            self.assertEqual(told[0], 2 ** len(features))
            self.assertEqual(sorted(told[1:]), list(things(features)))
            for place, ahead in enumerate(told[1:], start=2):
                for behind in told[place:]:
                    self.assertIn(table[ahead, behind], (1, 3))

    def test_e_all_else_alike(self):
        for features, table in self.tables:
            for thing in things(features):
                for k in range(len(features)):
                    as_wanted = value(thing, k) == wanted(features, k, thing)
                    self.assertEqual(table[thing, thing ^ 2 ** k], 1 if as_wanted else 2)

    def test_e_all_else_alike_is_a_path_of_one(self):
        for features, paths in zip(SETS, self.paths):
            for thing in things(features):
                for k in range(len(features)):
                    as_wanted = value(thing, k) == wanted(features, k, thing)
                    self.assertEqual(paths[thing, thing ^ 2 ** k], [-6] if as_wanted else [1, k])


if __name__ == "__main__":
    unittest.main()
