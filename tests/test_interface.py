"""The interface: flourblend.bins.answers(calls), and the document's examples."""

import ast
import contextlib
import io
import pathlib
import unittest

import flourblend
from flourblend.bins import answers
from tests.helper import (LEAST, MOST, add_bin, add_flour, ask, cheapest_blend, create, empty_bin, flat, make_blend,
                          make_cheapest_blend, set_price, set_request, shop)

EVERY_CALL = [create(), add_bin(10, 300, 5, 3), add_bin(8, 200, 9, 1), add_flour(0, 2), set_price(1, 2),
              set_request(6, 250, 400, 7), cheapest_blend(), make_cheapest_blend(), make_blend([4, 2]), empty_bin(1)]


class Examples(unittest.TestCase):
    def test_the_rows_of_these_calls(self):
        found = ask(create(), add_bin(10, 300, 5, 3), add_bin(8, 200, 9, 1), set_request(6, 250, 400, 7),
                    cheapest_blend(), make_cheapest_blend(), set_request(20, 0, 999, 999), make_blend([8, 0]))
        self.assertEqual(found, [[0], [0], [1], [0], [12, 3, 3], [12, 3, 3], [0], [-6]])


class Answers(unittest.TestCase):
    def test_one_call(self):
        self.assertEqual(answers([0]), [1, 0])
        self.assertEqual(answers([6]), [1, -11])
        self.assertEqual(answers([1, 10, 300, 5, 3]), [1, -11])
        self.assertEqual(answers([8, 0]), [1, -11])
        self.assertEqual(answers([8, 3, 0, 0, 0]), [1, -11])

    def test_several_calls(self):
        self.assertEqual(answers(flat(EVERY_CALL)),
                         [1, 0, 1, 0, 1, 1, 1, 12, 1, 1, 1, 0, 3, 15, 3, 3, 3, 15, 3, 3, 1, 16, 1, 3])

    def test_numbers_of_a_call_are_not_taken_for_calls(self):
        self.assertEqual(answers([0, 8, 3, 0, 0, 0, 1, 6, 6, 6, 6, 2, 0, 6, 6]), [1, 0, 1, -22, 1, 0, 1, 12, 2, 6, 1])

    def test_sixty_calls(self):
        calls = shop([(30, 300, 5, 1), (30, 200, 9, 2)], (1, 0, 999, 999)) + [make_cheapest_blend()] * 56
        self.assertEqual(len(calls), 60)
        self.assertEqual(ask(*calls), [[0], [0], [1], [0]] + [[1, 1, 0]] * 30 + [[2, 0, 1]] * 26)

    def test_sixty_calls_of_the_greatest_length(self):
        calls = [create()] + [make_blend([MOST] * 70)] * 59
        self.assertEqual(ask(*calls), [[0]] + [[-22]] * 59)

    def test_sixty_calls_without_an_instance(self):
        self.assertEqual(answers([8, 70] + [LEAST] * 70 + [6] * 59), [1, -11] * 60)

    def test_sixty_instances(self):
        self.assertEqual(answers([0] * 60), [1, 0] * 60)

    def test_the_calls_are_unchanged_afterwards(self):
        for calls in (flat(EVERY_CALL), [6], [0], flat([create()] + [make_blend([1] * 70)] * 59)):
            before = list(calls)
            answers(calls)
            self.assertEqual(calls, before)

    def test_twice_the_same(self):
        calls = flat(EVERY_CALL)
        first = answers(calls)
        self.assertEqual(answers(calls), first)
        self.assertEqual(answers(list(calls)), first)

    def test_nothing_is_kept_from_one_time_to_the_next(self):
        answers(flat(EVERY_CALL))
        self.assertEqual(answers([6]), [1, -11])
        self.assertEqual(answers([0, 4, 0, 6]), [1, 0, 1, -2, 1, -33])

    def test_what_is_given_back_is_a_new_list(self):
        calls = flat(EVERY_CALL)
        first = answers(calls)
        first.clear()
        self.assertEqual(len(answers(calls)), 24)
        self.assertIsNot(answers(calls), calls)

    def test_a_list_of_whole_numbers(self):
        found = answers(flat(EVERY_CALL))
        self.assertIs(type(found), list)
        self.assertEqual({type(number) for number in found}, {int})

    def test_nothing_is_printed(self):
        with contextlib.redirect_stdout(io.StringIO()) as out, contextlib.redirect_stderr(io.StringIO()) as err:
            answers(flat(EVERY_CALL))
        self.assertEqual(out.getvalue() + err.getvalue(), "")

    def test_the_package_imports_only_itself(self):
        for path in pathlib.Path(flourblend.__file__).parent.glob("*.py"):
            for node in ast.walk(ast.parse(path.read_text())):
                self.assertNotIsInstance(node, ast.Import, path.name)
                if isinstance(node, ast.ImportFrom):
                    self.assertTrue(node.module.startswith("flourblend."), path.name)

    def test_the_later_calls_are_not_answered_falsely(self):
        for call in ([9, 0], [10], [11], [12, 5], [13], [14, 0, 5], [15, 0], [16]):
            with self.subTest(call=call):
                self.assertRaises(NotImplementedError, answers, create() + call)


if __name__ == "__main__":
    unittest.main()
