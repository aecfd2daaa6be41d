"""Operation 9: check_blend."""

import random
import unittest

from flourblend.averages import average, greatest_divisor
from tests.helper import (FAR_OUT, MOST, ask, check_blend, create, describe, is_valid, last, make_blend, pair,
                          random_shop, set_request, shop, total)
from tests.helper import average as exact_average

BINS = [(10, 300, 5, 3), (8, 200, 9, 1)]
REQUEST = (6, 250, 400, 7)
FOUR_BINS = [(10, 300, 5, 3), (0, 200, 9, 1), (30, 999, 999, 99), (7, 1, 0, 1)]


class CheckBlend(unittest.TestCase):
    def check(self, blend, answer, bins=BINS, request=REQUEST):
        with self.subTest(blend=blend, bins=bins, request=request):
            self.assertEqual(last(*shop(bins, request), check_blend(blend)), answer)

    def test_a_valid_blend(self):
        self.check([3, 3], [1, 6, 250, 1, 7, 1, 12])
        self.check([6, 0], [1, 6, 300, 1, 5, 1, 18])
        self.check([4, 2], [1, 6, 800, 3, 19, 3, 14])

    def test_a_blend_of_another_weight(self):
        self.check([3, 2], [0, 5, 260, 1, 33, 5, 11])
        self.check([4, 3], [0, 7, 1800, 7, 47, 7, 15])

    def test_a_blend_that_is_too_weak(self):
        self.check([2, 4], [0, 6, 700, 3, 23, 3, 10])
        self.check([2, 4], [0, 6, 700, 3, 23, 3, 10], request=(6, 234, 999, 999))
        self.check([2, 4], [1, 6, 700, 3, 23, 3, 10], request=(6, 233, 999, 999))

    def test_a_blend_that_is_too_strong(self):
        self.check([4, 2], [0, 6, 800, 3, 19, 3, 14], request=(6, 0, 266, 999))
        self.check([4, 2], [1, 6, 800, 3, 19, 3, 14], request=(6, 0, 267, 999))

    def test_a_blend_with_too_much_ash(self):
        self.check([4, 2], [0, 6, 800, 3, 19, 3, 14], request=(6, 0, 999, 6))
        self.check([4, 2], [1, 6, 800, 3, 19, 3, 14], request=(6, 0, 999, 7))

    def test_a_blend_that_is_not_available(self):
        self.check([11, 0], [0, 11, 300, 1, 5, 1, 33], request=(11, 0, 999, 999))
        self.check([0, 9], [0, 9, 200, 1, 9, 1, 9], request=(9, 0, 999, 999))
        self.check([10, 8], [1, 18, 2300, 9, 61, 9, 38], request=(18, 0, 999, 999))
        self.check([11, 8], [0, 19, 4900, 19, 127, 19, 41], request=(19, 0, 999, 999))

    def test_what_is_available_is_checked_as_it_is_now(self):
        found = ask(*shop(BINS, REQUEST), check_blend([6, 0]), make_blend([6, 0]), check_blend([6, 0]))
        self.assertEqual(found[4:], [[1, 6, 300, 1, 5, 1, 18], [18], [0, 6, 300, 1, 5, 1, 18]])

    def test_the_weight_zero(self):
        self.check([0, 0], [0, 0, 0, 1, 0, 1, 0])
        self.check([0, 0], [0, 0, 0, 1, 0, 1, 0], request=(1, 0, 999, 999))
        self.check([0] * 4, [0, 0, 0, 1, 0, 1, 0], bins=FOUR_BINS)

    def test_no_ash(self):
        self.check([0, 0, 0, 7], [1, 7, 1, 1, 0, 1, 7], bins=FOUR_BINS, request=(7, 0, 999, 0))

    def test_averages_in_lowest_terms(self):
        bins = [(30, 6, 10, 1), (30, 4, 0, 1)]
        self.check([1, 1], [0, 2, 5, 1, 5, 1, 2], bins=bins)
        self.check([1, 2], [0, 3, 14, 3, 10, 3, 3], bins=bins)
        self.check([2, 4], [1, 6, 14, 3, 10, 3, 6], bins=bins, request=(6, 0, 999, 999))
        self.check([3, 9], [0, 12, 9, 2, 5, 2, 12], bins=bins)
        self.check([0, 9], [0, 9, 4, 1, 0, 1, 9], bins=bins)

    def test_four_bins(self):
        self.check([1, 2, 3, 4], [0, 10, 3701, 10, 302, 1, 306], bins=FOUR_BINS)
        self.check([30] * 4, [0, 120, 375, 1, 1013, 4, 3120], bins=FOUR_BINS)
        self.check([30] * 4, [0, 120, 999, 1, 999, 1, 11880], bins=[(30, 999, 999, 99)] * 4)
        self.check([0, 0, 30, 0], [1, 30, 999, 1, 999, 1, 2970], bins=FOUR_BINS, request=(30, 999, 999, 999))

    def test_one_bin(self):
        self.check([7], [1, 7, 300, 1, 5, 1, 21], bins=BINS[:1], request=(7, 300, 300, 5))
        self.check([30], [0, 30, 300, 1, 5, 1, 90], bins=BINS[:1], request=(30, 300, 300, 5))

    def test_no_bins(self):
        self.assertEqual(ask(create(), check_blend([]), check_blend([0]), check_blend([1]), check_blend([0] * 70))[1:],
                         [[0, 0, 0, 1, 0, 1, 0], [-22], [-22], [-22]])

    def test_lists_of_another_length(self):
        for value in (0, 3):
            for length in (0, 1, 3, 4, 5, 69, 70):
                self.check([value] * length, [-22])
            for length in (0, 1, 3, 5, 70):
                self.check([value] * length, [-22], bins=FOUR_BINS)
        self.check([3, 3, 0], [-22])

    def test_range_of_the_elements(self):
        for value in (-1, 31) + FAR_OUT:
            self.check([value, 3], [-22])
            self.check([3, value], [-22])
            self.check([0, 0, 0, value], [-22], bins=FOUR_BINS)
        self.check([0, 30], [0, 30, 200, 1, 9, 1, 30])
        self.check([30, 0], [0, 30, 300, 1, 5, 1, 90])

    def test_elements_that_sum_up_to_the_weight_are_checked_all_the_same(self):
        self.check([-1, 7], [-22])
        self.check([MOST, 6 - MOST], [-22])

    def test_the_row_ends_where_its_length_says(self):
        self.assertEqual(ask(*shop(BINS, REQUEST), check_blend([]), check_blend([9] * 70), check_blend([3, 3]),
                             check_blend([9]), describe())[4:],
                         [[-22], [-22], [1, 6, 250, 1, 7, 1, 12], [-22],
                          [2, 10, 300, 5, 3, 8, 200, 9, 1, 6, 250, 400, 7, 0]])

    def test_the_blend_handed_in_is_not_taken_out(self):
        self.assertEqual(ask(*shop(BINS, REQUEST), check_blend([6, 0]), check_blend([6, 0]), set_request(10, 0, 999, 9),
                             check_blend([10, 0]))[4:],
                         [[1, 6, 300, 1, 5, 1, 18]] * 2 + [[0], [1, 10, 300, 1, 5, 1, 30]])

    def test_against_exact_fractions(self):
        chance = random.Random(9)
        found = {0: 0, 1: 0}
        for _ in range(300):
            bins, request = random_shop(chance)
            blend = [chance.randint(0, min(30, one[0] + chance.choice([0, 0, 1]))) for one in bins]
            request = (chance.choice([request[0], max(1, min(30, sum(blend)))]),) + request[1:]
            valid = 1 if is_valid(bins, request, blend) else 0
            found[valid] += 1
            self.check(blend, [valid, sum(blend)] + pair(exact_average(bins, blend, 1))
                       + pair(exact_average(bins, blend, 2)) + [total(bins, blend, 3)], bins=bins, request=request)
        self.assertGreater(min(found.values()), 30)


class Average(unittest.TestCase):
    def test_lowest_terms(self):
        for first, second, divisor in ((1, 0, 1), (7, 0, 7), (6, 4, 2), (4, 6, 2), (1, 999, 1), (30, 29970, 30),
                                       (7, 9, 1)):
            with self.subTest(first=first, second=second):
                self.assertEqual(greatest_divisor(first, second), divisor)

    def test_zero(self):
        for weight in (0, 1, 2, 30):
            self.assertEqual(average(0, weight), [0, 1])

    def test_some_averages(self):
        for told, weight, answer in ((1, 1, [1, 1]), (1, 30, [1, 30]), (10, 30, [1, 3]), (45, 30, [3, 2]),
                                     (29970, 30, [999, 1]), (29971, 30, [29971, 30])):
            with self.subTest(told=told, weight=weight):
                self.assertEqual(average(told, weight), answer)


if __name__ == "__main__":
    unittest.main()
