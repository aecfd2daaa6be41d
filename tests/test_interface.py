"""The interface: flourblend.bins.answers(calls), and the document's examples."""

import ast
import contextlib
import io
import pathlib
import unittest

import flourblend
from flourblend.bins import answers
from tests.helper import (LEAST, MOST, add_bin, add_flour, ask, cheapest_blend, cheapest_if_price, cheapest_without,
                          check_blend, count_blends, create, describe, empty_bin, extreme_averages, flat,
                          greatest_amount, make_blend, make_cheapest_blend, obstacle, set_price, set_request, shop)

# Every call, what the instance answers to it, in order.
EVERY_CALL = [
    (create(), [0]), (add_bin(10, 300, 5, 3), [0]), (add_bin(8, 200, 9, 1), [1]), (add_flour(0, 2), [12]),
    (set_price(1, 2), [1]), (set_request(6, 250, 400, 7), [0]), (cheapest_blend(), [15, 3, 3]),
    (make_cheapest_blend(), [15, 3, 3]), (make_blend([4, 2]), [16]), (check_blend([4, 2]), [1, 6, 800, 3, 19, 3, 16]),
    (count_blends(), [3, 3]), (greatest_amount(), [8]), (extreme_averages(7), [0, 1800, 7, 1900, 7, 43, 7]),
    (obstacle(), [0]), (cheapest_if_price(0, 1), [7, 5, 1]), (cheapest_without(1), [-33]),
    (describe(), [2, 5, 300, 5, 3, 3, 200, 9, 2, 6, 250, 400, 7, 31]), (empty_bin(1), [3]),
]
CALLS = flat([call for call, _ in EVERY_CALL])


class Examples(unittest.TestCase):
    ROWS = [
        (create(), [0]),
        (add_bin(10, 300, 5, 3), [0]),
        (add_bin(8, 200, 9, 1), [1]),
        (set_request(6, 250, 400, 7), [0]),
        (cheapest_blend(), [12, 3, 3]),
        (count_blends(), [7, 4]),
        (check_blend([2, 4]), [0, 6, 700, 3, 23, 3, 10]),
        (extreme_averages(12), [0, 700, 3, 850, 3, 17, 3]),
        (greatest_amount(), [18]),
        (cheapest_if_price(1, 4), [18, 6, 0]),
        (make_cheapest_blend(), [12, 3, 3]),
        (describe(), [2, 7, 300, 5, 3, 5, 200, 9, 1, 6, 250, 400, 7, 12]),
        (set_request(20, 0, 999, 999), [0]),
        (obstacle(), [1]),
        (make_blend([8, 0]), [-6]),
    ]

    def test_all_rows_in_one_list(self):
        told = [number for _, answer in self.ROWS for number in [len(answer)] + answer]
        self.assertEqual(answers([number for call, _ in self.ROWS for number in call]), told)


class Answers(unittest.TestCase):
    def test_one_call(self):
        self.assertEqual(answers([0]), [1, 0])
        self.assertEqual(answers([6]), [1, -11])
        self.assertEqual(answers([1, 10, 300, 5, 3]), [1, -11])
        self.assertEqual(answers([8, 0]), [1, -11])
        self.assertEqual(answers([8, 3, 0, 0, 0]), [1, -11])
        self.assertEqual(answers([9, 3, 0, 0, 0]), [1, -11])
        self.assertEqual(answers([16]), [1, -11])

    def test_every_call(self):
        self.assertEqual({call[0] for call, _ in EVERY_CALL}, set(range(17)))
        self.assertEqual(answers(CALLS), [number for _, answer in EVERY_CALL for number in [len(answer)] + answer])

    def test_numbers_of_a_call_are_not_taken_for_calls(self):
        self.assertEqual(answers([0, 8, 3, 0, 0, 0, 1, 6, 6, 6, 6, 2, 0, 6, 6]), [1, 0, 1, -22, 1, 0, 1, 12, 2, 6, 1])
        self.assertEqual(answers([0, 9, 2, 16, 16, 14, 16, 16, 15, 16, 12, 16, 1, 11, 11, 11, 11, 14, 0, 16, 16]),
                         [1, 0, 1, -22, 1, -2, 1, -2, 1, -33, 1, 0, 2, 16, 1, 10, 1, 11, 11, 11, 11, 1, 0, 999, 999, 0])

    def test_sixty_calls(self):
        calls = shop([(30, 300, 5, 1), (30, 200, 9, 2)], (1, 0, 999, 999)) + [make_cheapest_blend()] * 56
        self.assertEqual(len(calls), 60)
        self.assertEqual(ask(*calls), [[0], [0], [1], [0]] + [[1, 1, 0]] * 30 + [[2, 0, 1]] * 26)

    def test_sixty_calls_of_the_greatest_length(self):
        calls = [create()] + [make_blend([MOST] * 70)] * 59
        self.assertEqual(ask(*calls), [[0]] + [[-22]] * 59)

    def test_sixty_checks_of_the_greatest_length(self):
        calls = [create()] + [check_blend([LEAST] * 70)] * 59
        self.assertEqual(len(flat(calls)), 1 + 59 * 72)
        self.assertEqual(ask(*calls), [[0]] + [[-22]] * 59)

    def test_sixty_calls_without_an_instance(self):
        self.assertEqual(answers([8, 70] + [LEAST] * 70 + [6] * 59), [1, -11] * 60)

    def test_sixty_instances(self):
        self.assertEqual(answers([0] * 60), [1, 0] * 60)

    def test_the_calls_are_unchanged_afterwards(self):
        for calls in (CALLS, [6], [0], flat([create()] + [make_blend([1] * 70)] * 59)):
            before = list(calls)
            answers(calls)
            self.assertEqual(calls, before)

    def test_twice_the_same(self):
        first = answers(CALLS)
        self.assertEqual(answers(CALLS), first)
        self.assertEqual(answers(list(CALLS)), first)

    def test_nothing_is_kept_from_one_time_to_the_next(self):
        answers(CALLS)
        self.assertEqual(answers([6]), [1, -11])
        self.assertEqual(answers([0, 4, 0, 6]), [1, 0, 1, -2, 1, -33])

    def test_what_is_given_back_is_a_new_list(self):
        first = answers(CALLS)
        first.clear()
        self.assertEqual(answers(CALLS)[:4], [1, 0, 1, 0])
        self.assertIsNot(answers(CALLS), CALLS)

    def test_a_list_of_whole_numbers(self):
        found = answers(CALLS)
        self.assertIs(type(found), list)
        self.assertEqual({type(number) for number in found}, {int})

    def test_nothing_is_printed(self):
        with contextlib.redirect_stdout(io.StringIO()) as out, contextlib.redirect_stderr(io.StringIO()) as err:
            answers(CALLS)
        self.assertEqual(out.getvalue() + err.getvalue(), "")

    def test_the_package_imports_only_itself(self):
        for path in pathlib.Path(flourblend.__file__).parent.glob("*.py"):
            for node in ast.walk(ast.parse(path.read_text())):
                self.assertNotIsInstance(node, ast.Import, path.name)
                if isinstance(node, ast.ImportFrom):
                    self.assertTrue(node.module.startswith("flourblend."), path.name)


if __name__ == "__main__":
    unittest.main()
