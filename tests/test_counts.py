"""Operations 10 and 11: count_blends and greatest_amount."""

import random
import unittest

from tests.helper import (add_flour, ask, available_by_force, cheapest_blend, count_blends, create, empty_bin,
                          greatest_amount, greatest_by_force, last, make_blend, random_shop, set_request, shop,
                          valid_by_force)

BINS = [(10, 300, 5, 3), (8, 200, 9, 1)]
WIDEST = (0, 999, 999)
FULL = [(30, 999, 999, 99)] * 4


class CountBlends(unittest.TestCase):
    def check(self, bins, request, answer):
        with self.subTest(bins=bins, request=request):
            self.assertEqual(last(*shop(bins, request), count_blends()), answer)

    def test_available_and_valid(self):
        self.check(BINS, (6, 250, 400, 7), [7, 4])
        self.check(BINS, (6,) + WIDEST, [7, 7])
        self.check(BINS, (6, 301, 400, 7), [7, 0])

    def test_each_bound_counts(self):
        self.check(BINS, (6, 250, 999, 999), [7, 4])
        self.check(BINS, (6, 251, 999, 999), [7, 3])
        self.check(BINS, (6, 0, 250, 999), [7, 4])
        self.check(BINS, (6, 0, 249, 999), [7, 3])
        self.check(BINS, (6, 0, 999, 7), [7, 4])
        self.check(BINS, (6, 0, 999, 6), [7, 2])

    def test_the_amounts_count(self):
        self.check(BINS, (1,) + WIDEST, [2, 2])
        self.check(BINS, (8,) + WIDEST, [9, 9])
        self.check(BINS, (9,) + WIDEST, [9, 9])
        self.check(BINS, (10,) + WIDEST, [9, 9])
        self.check(BINS, (11,) + WIDEST, [8, 8])
        self.check(BINS, (18,) + WIDEST, [1, 1])
        self.check(BINS, (19,) + WIDEST, [0, 0])

    def test_no_bin(self):
        self.assertEqual(last(create(), count_blends()), [0, 0])
        self.check([], (1,) + WIDEST, [0, 0])
        self.check([], (30,) + WIDEST, [0, 0])

    def test_one_bin(self):
        for kilograms, n, answer in ((5, 5, [1, 1]), (5, 4, [1, 1]), (5, 6, [0, 0]), (0, 1, [0, 0]), (30, 30, [1, 1]),
                                     (29, 30, [0, 0])):
            self.check([(kilograms, 300, 5, 2)], (n,) + WIDEST, answer)
        self.check([(5, 300, 5, 2)], (5, 301, 999, 999), [1, 0])

    def test_four_bins(self):
        self.check(FULL, (1,) + WIDEST, [4, 4])
        self.check(FULL, (2,) + WIDEST, [10, 10])
        self.check(FULL, (30,) + WIDEST, [5456, 5456])
        self.check(FULL, (30, 0, 999, 998), [5456, 0])

    def test_empty_bins(self):
        self.check([(0, 300, 5, 1)] * 4, (1,) + WIDEST, [0, 0])
        self.check([(0, 300, 5, 1), (4, 300, 5, 1), (0, 300, 5, 1), (4, 300, 5, 1)], (6,) + WIDEST, [3, 3])
        self.check([(4, 300, 5, 1), (0, 300, 5, 1), (4, 200, 5, 1), (0, 300, 5, 1)], (6, 250, 999, 999), [3, 2])

    def test_after_the_flour_has_changed(self):
        self.assertEqual(ask(*shop(BINS, (6,) + WIDEST), make_blend([6, 0]), count_blends(), empty_bin(1),
                             count_blends(), add_flour(0, 2), count_blends())[4:],
                         [[18], [5, 5], [8], [0, 0], [6], [1, 1]])

    def test_against_brute_force(self):
        chance = random.Random(10)
        for _ in range(300):
            bins, request = random_shop(chance)
            self.check(bins, request, [len(available_by_force(bins, request[0])), len(valid_by_force(bins, request))])


class GreatestAmount(unittest.TestCase):
    def check(self, bins, bounds, answer):
        """The weight of the request must not matter."""
        for n in (1, 7, 30):
            with self.subTest(bins=bins, bounds=bounds, n=n):
                self.assertEqual(last(*shop(bins, (n,) + bounds), greatest_amount()), [answer])

    def test_all_the_flour_there_is(self):
        self.check(BINS, (250, 400, 7), 18)
        self.check(BINS, WIDEST, 18)
        self.check([(30, 300, 5, 1)], WIDEST, 30)
        self.check([(29, 300, 5, 1)], WIDEST, 29)

    def test_no_more_than_thirty(self):
        self.check([(15, 300, 5, 1), (15, 300, 5, 1)], WIDEST, 30)
        self.check([(16, 300, 5, 1), (15, 300, 5, 1)], WIDEST, 30)
        self.check(FULL, WIDEST, 30)

    def test_the_bounds_leave_flour_in_the_bins(self):
        self.check(BINS, (280, 999, 999), 12)
        self.check(BINS, (300, 999, 999), 10)
        self.check(BINS, (0, 200, 999), 8)
        self.check(BINS, (0, 220, 999), 10)
        self.check(BINS, (0, 999, 5), 10)
        self.check(BINS, (0, 999, 6), 13)

    def test_only_the_weight_zero(self):
        self.check(BINS, (301, 999, 999), 0)
        self.check(BINS, (0, 199, 999), 0)
        self.check(BINS, (0, 999, 4), 0)
        self.check([(5, 100, 0, 1), (5, 300, 9, 1)], (300, 999, 8), 0)
        self.check([(30, 1, 1, 1)] * 4, (0, 0, 999), 0)
        self.check([(30, 1, 1, 1)] * 4, (2, 999, 999), 0)

    def test_a_greater_weight_is_valid_and_smaller_ones_are_not(self):
        # Half of each is asked for: only even weights have a blend.
        self.check([(5, 300, 5, 1), (5, 200, 5, 1)], (250, 250, 999), 10)
        # Three of the one to four of the other: nothing from 1 to 6 is valid, 7 is.
        self.check([(3, 7, 0, 1), (4, 14, 0, 1)], (11, 11, 999), 7)
        self.check([(5, 7, 0, 1), (6, 14, 0, 1)], (11, 11, 999), 7)
        self.check([(30, 7, 0, 1), (30, 14, 0, 1)], (11, 11, 999), 28)
        # The sum of 991 and 29 times 1 is 30 times 34.
        self.check([(1, 991, 0, 1), (30, 1, 0, 1)], (34, 34, 999), 30)

    def test_which_weights_were_passed_over(self):
        bins = [(5, 7, 0, 1), (6, 14, 0, 1)]
        found = [last(*shop(bins, (n, 11, 11, 999)), cheapest_blend()) for n in range(1, 12)]
        self.assertEqual(found, [[-33]] * 6 + [[7, 3, 4]] + [[-33]] * 4)

    def test_no_bin(self):
        self.assertEqual(last(create(), greatest_amount()), [0])
        self.check([], WIDEST, 0)
        self.check([], (0, 0, 0), 0)
        self.check([], (999, 999, 0), 0)

    def test_one_bin(self):
        self.check([(7, 300, 5, 2)], (300, 300, 5), 7)
        self.check([(7, 300, 5, 2)], (301, 999, 5), 0)
        self.check([(0, 300, 5, 2)], WIDEST, 0)
        self.check([(1, 300, 5, 2)], WIDEST, 1)

    def test_empty_bins(self):
        self.check([(0, 300, 5, 1)] * 4, WIDEST, 0)
        self.check([(0, 300, 5, 1), (4, 300, 5, 1), (0, 300, 5, 1), (4, 200, 5, 1)], WIDEST, 8)
        self.check([(0, 900, 5, 1), (4, 300, 5, 1), (0, 300, 5, 1), (4, 200, 5, 1)], (275, 999, 999), 5)

    def test_four_bins(self):
        self.check([(3, 400, 9, 4), (2, 300, 5, 3), (9, 200, 4, 2), (9, 100, 1, 1)], (250, 999, 999), 14)

    def test_after_the_flour_or_the_request_has_changed(self):
        self.assertEqual(ask(*shop(BINS), greatest_amount(), empty_bin(0), greatest_amount(), add_flour(1, 22),
                             greatest_amount(), add_flour(0, 1), greatest_amount(), set_request(1, 201, 999, 999),
                             greatest_amount())[3:], [[18], [10], [8], [30], [30], [1], [30], [0], [30]])

    def test_against_brute_force(self):
        chance = random.Random(11)
        for _ in range(200):
            bins, request = random_shop(chance)
            with self.subTest(bins=bins, request=request):
                self.assertEqual(last(*shop(bins, request), greatest_amount()), [greatest_by_force(bins, request)])

    def test_against_brute_force_with_more_than_thirty(self):
        chance = random.Random(12)
        for _ in range(60):
            bins = [(chance.randint(15, 30), chance.randint(1, 999), chance.randint(0, 999), 1) for _ in range(2)]
            lower = chance.randint(0, 600)
            request = (1, lower, lower + chance.randint(0, 100), chance.randint(300, 999))
            with self.subTest(bins=bins, request=request):
                self.assertEqual(last(*shop(bins, request), greatest_amount()), [greatest_by_force(bins, request)])


if __name__ == "__main__":
    unittest.main()
