"""The interface: how calls and answers stand in their lists, and what a call of answers leaves alone."""

import ast
import builtins
import contextlib
import io
import pathlib
import unittest
from unittest import mock

import wishesalike
from tests.helper import (
    DETOUR, DINNER, FEATURE_SETS, MOST, above, begin, below, best, compare, feature, joined, order, ordered, path,
    shortest_rows, split, telling, worst,
)
from wishesalike.wishes import answers

PACKAGE = pathlib.Path(wishesalike.__file__).parent


class Untouchable(list):
    """A list that may be read alone."""

    def refuse(self, *anything):
        raise AssertionError("what was handed in is changed")

    append = clear = extend = insert = pop = remove = reverse = sort = refuse
    __setitem__ = __delitem__ = __iadd__ = __imul__ = refuse


class Lists(unittest.TestCase):
    def test_one_call(self):
        self.assertEqual(answers([0]), [1, 0])

    def test_how_calls_and_answers_stand(self):
        calls = [0, 1, 1, 0, 1, 2, 1, 0, 2, 0, 0, 3, 0, 0, 4, 1, 2, 4, 4, 0]
        self.assertEqual(answers(calls), [1, 0, 1, 0, 1, 1, 1, 3, 1, 2, 1, 1, 1, -22])

    def test_all_nine_calls(self):
        calls = [0, 1, 1, 0, 1, 2, 1, 0, 2, 0, 0, 3, 0, 0, 4, 1, 2, 5, 2, 1, 6, 0, 7, 0, 8]
        told = [1, 0, 1, 0, 1, 1, 1, 3, 1, 2, 1, 1, 3, 2, 1, 0, 1, 2, 1, 1, 5, 4, 3, 1, 0, 2]
        self.assertEqual(answers(calls), told)

    def test_each_kind_of_answer_of_path(self):
        # As few as none, some, -6 and -22.
        calls = [0, 1, 1, 0, 1, 2, 1, 0, 5, 2, 2, 5, 0, 3, 5, 3, 0, 5, 4, 4, 8]
        self.assertEqual(answers(calls), [1, 0, 1, 0, 1, 1, 1, 0, 3, 2, 0, 1, 1, -6, 1, -22, 5, 4, 3, 1, 0, 2])

    def test_with_no_features(self):
        self.assertEqual(answers([0, 5, 0, 0, 6, 0, 7, 0, 8]), [1, 0, 1, 0, 1, 0, 1, 0, 2, 1, 0])
        self.assertEqual(answers([0, 5, 1, 0, 6, 1, 7, 1, 8]), [1, 0, 1, -22, 1, -22, 1, -22, 2, 1, 0])

    def test_on_stands_behind_its_count(self):
        # on is 1 and 0, wish 2: feature 2 is rather 1 only where feature 1, named first, is 1 and feature 0 is 0.
        calls = [0, 1, 0, 0, 1, 0, 0, 1, 2, 2, 1, 0, 2, 3, 2, 2, 3, 1]
        self.assertEqual(answers(calls), [1, 0, 1, 0, 1, 1, 1, 2, 1, 6, 1, 1])

    def test_a_second_begin(self):
        calls = joined(telling(DINNER) + [best(0, 0)] + telling(DETOUR) + [best(0, 0), begin(), best(0, 0)])
        self.assertEqual(answers(calls), [1, 0, 1, 0, 1, 1, 1, 3, 1, 0, 1, 0, 1, 1, 1, 2, 1, 2, 1, 0, 1, 0])

    def test_path_and_order_behind_a_second_begin(self):
        calls = joined(telling(DINNER) + [path(2, 1), order()] + telling(DETOUR) + [path(3, 6), order(), begin()]
                       + [path(0, 0), path(2, 1), above(0), below(1), order()])
        told = [1, 0, 1, 0, 1, 1, 3, 2, 1, 0, 5, 4, 3, 1, 0, 2]
        told += [1, 0, 1, 0, 1, 1, 1, 2, 5, 4, 1, 0, 2, 1, 9, 8, 2, 6, 4, 0, 5, 1, 3, 7]
        told += [1, 0, 1, 0, 1, -22, 1, 0, 1, -22, 2, 1, 0]
        self.assertEqual(answers(calls), told)

    def test_largest_numbers(self):
        calls = joined([begin(), feature([], MOST), feature([MOST], MOST), feature([MOST] * 60, MOST),
                        best(MOST, MOST), worst(MOST, MOST), compare(MOST, MOST), path(MOST, MOST), above(MOST),
                        below(MOST), feature([], 1)])
        self.assertEqual(answers(calls), [1, 0] + [1, -22] * 9 + [1, 0])

    def test_a_refused_on_is_passed_over_whole(self):
        for length in range(61):
            for number in (0, 1, 2, 3, 4, 5, 6, 7, 8, MOST):
                told = answers(joined([begin(), feature([number] * length, 2), feature([], 1), best(0, 0)]))
                self.assertEqual(told, [1, 0, 1, -22, 1, 0, 1, 1])

    def test_300_calls(self):
        calls = joined([begin()] + [feature([MOST] * 60, MOST)] * 299)
        self.assertEqual(answers(calls), [1, 0] + [1, -22] * 299)
        six = FEATURE_SETS[9]
        calls = joined(telling(six) + [compare(k % 64, k % 64) for k in range(293)])
        self.assertEqual(answers(calls), joined([[1, k] for k in [0, 0, 1, 2, 3, 4, 5] + [0] * 293]))

    def test_300_calls_with_many_orders_and_paths(self):
        six = FEATURE_SETS[9]
        rows = shortest_rows(six)
        calls = telling(six)
        told = joined([[1, number] for number in [0, 0, 1, 2, 3, 4, 5]])
        for k in range(293):
            pair = (k * 37 % 64, k * 29 % 64 ^ 21)
            if k % 3 == 0:
                calls.append(order())
                told += [65, 64] + ordered(six)
            else:
                calls.append(path(*pair))
                told += [len(rows[pair]) + 1, len(rows[pair]), *rows[pair]] if pair in rows else [1, -6]
        self.assertEqual(len(calls), 300)
        self.check_long(calls, told)

    def test_300_calls_with_nothing_but_orders(self):
        told = joined([[1, number] for number in [0, 0, 1, 2, 3, 4, 5]]) + ([65, 64] + list(range(64))) * 293
        self.check_long(telling([([], 0)] * 6) + [order()] * 293, told)
        self.check_long([begin()] + [order()] * 299, [1, 0] + [2, 1, 0] * 299)

    def check_long(self, calls, told):
        # Answer by answer, as it takes very long to show how two long lists differ.
        found = answers(joined(calls))
        for call, one, other in zip(calls, split(found), split(told)):
            self.assertEqual(one, other, call)
        self.assertTrue(found == told)

    def test_whole_numbers_in_a_list(self):
        for features in FEATURE_SETS:
            told = answers(joined(telling(features) + every_kind()))
            self.assertIs(type(told), list)
            self.assertEqual({type(number) for number in told}, {int})


class LeftAlone(unittest.TestCase):
    def test_what_is_handed_in_stays(self):
        for features in FEATURE_SETS:
            calls = joined(telling(features) + every_kind())
            before = list(calls)
            told = answers(calls)
            self.assertEqual(calls, before)
            self.assertEqual(answers(Untouchable(calls)), told)

    def test_nothing_is_kept(self):
        lists = [joined(telling(features) + every_kind()) for features in FEATURE_SETS]
        first = [answers(calls) for calls in lists]
        for told, calls in reversed(list(zip(first, lists))):
            again = answers(calls)
            self.assertEqual(again, told)
            again.append(7)
            self.assertEqual(answers(calls), told)

    def test_a_later_change_of_the_list_does_not_reach_an_answer(self):
        calls = joined(telling(DINNER) + [best(0, 0)])
        told = answers(calls)
        kept = list(told)
        calls.clear()
        self.assertEqual(told, kept)

    def test_nothing_is_printed_or_read(self):
        shown = io.StringIO()
        never = mock.Mock(side_effect=AssertionError("something is read"))
        calls = joined(telling(DETOUR) + every_kind())
        with contextlib.redirect_stdout(shown), contextlib.redirect_stderr(shown):
            with mock.patch.object(builtins, "open", never), mock.patch.object(builtins, "input", never):
                with mock.patch("sys.stdin", None):
                    answers(calls)
        self.assertEqual(shown.getvalue(), "")

    def test_nothing_is_imported(self):
        for path in sorted(PACKAGE.glob("*.py")):
            for node in ast.walk(ast.parse(path.read_text(encoding="utf-8"))):
                self.assertNotIsInstance(node, (ast.Import, ast.ImportFrom), path.name)

    def test_the_files_keep_their_size_and_signs(self):
        for path in sorted(PACKAGE.glob("*.py")):
            text = path.read_text(encoding="utf-8")
            rows = text.split("\n")
            self.assertTrue(all(sign == "\n" or " " <= sign <= "~" for sign in text), path.name)
            self.assertLessEqual(len(rows), 400, path.name)
            self.assertLessEqual(max(len(row) for row in rows), 120, path.name)
            for node in ast.walk(ast.parse(text)):
                if isinstance(node, ast.FunctionDef):
                    self.assertLessEqual(node.end_lineno - node.lineno + 1, 40, node.name)


def every_kind():
    """Calls of every kind, some of them refused for some features."""
    calls = [best(0, 0), worst(0, 0), best(1, 0), worst(1, 1), best(4, 3), compare(0, 0), compare(6, 3)]
    calls += [compare(3, 6), compare(1, 2), compare(MOST, 0), feature([0, 0], 0), feature([], 2), order()]
    calls += [path(0, 0), path(3, 6), path(6, 3), path(0, 1), path(1, 0), path(MOST, 0), above(0), above(6), below(0)]
    calls += [below(6), above(MOST), below(MOST), feature([], 1), order(), path(1, 0), above(1), below(1)]
    return calls + [begin(), best(0, 0), order(), feature([], 1), best(0, 0), path(0, 1), above(0), below(0), order()]


if __name__ == "__main__":
    unittest.main()
