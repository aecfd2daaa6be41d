"""Operations 6 and 7: cheapest_blend and make_cheapest_blend, and promise 1."""

import random
import unittest

from tests.helper import (add_bin, add_flour, ask, cheapest_blend, cheapest_by_force, create, empty_bin, is_valid,
                          last, make_cheapest_blend, random_shop, shop)

WIDEST = (0, 999, 999)


class WhichBlend(unittest.TestCase):
    def check(self, bins, request, answer):
        with self.subTest(bins=bins, request=request):
            self.assertEqual(last(*shop(bins, request), cheapest_blend()), answer)
            self.assertEqual(last(*shop(bins, request), make_cheapest_blend()), answer)

    def test_the_cheapest_flour_is_taken_first(self):
        self.check([(10, 300, 5, 3), (8, 200, 9, 1)], (6,) + WIDEST, [6, 0, 6])
        self.check([(10, 300, 5, 3), (8, 200, 9, 1)], (10,) + WIDEST, [14, 2, 8])
        self.check([(5, 1, 0, 9), (5, 1, 0, 2), (5, 1, 0, 5), (5, 1, 0, 1)], (12,) + WIDEST, [25, 0, 5, 2, 5])

    def test_the_least_strength_asks_for_dearer_flour(self):
        bins = [(10, 300, 0, 3), (10, 200, 0, 1)]
        self.check(bins, (4, 225, 999, 999), [6, 1, 3])
        self.check(bins, (4, 226, 999, 999), [8, 2, 2])
        self.check(bins, (4, 224, 999, 999), [6, 1, 3])
        self.check(bins, (4, 300, 999, 999), [12, 4, 0])
        self.check(bins, (4, 301, 999, 999), [-33])

    def test_the_greatest_strength_asks_for_dearer_flour(self):
        bins = [(10, 300, 0, 1), (10, 200, 0, 3)]
        self.check(bins, (4, 0, 275, 999), [6, 3, 1])
        self.check(bins, (4, 0, 274, 999), [8, 2, 2])
        self.check(bins, (4, 0, 276, 999), [6, 3, 1])
        self.check(bins, (4, 0, 200, 999), [12, 0, 4])
        self.check(bins, (4, 0, 199, 999), [-33])

    def test_the_greatest_ash_asks_for_dearer_flour(self):
        bins = [(10, 300, 8, 1), (10, 300, 4, 3)]
        self.check(bins, (4, 0, 999, 7), [6, 3, 1])
        self.check(bins, (4, 0, 999, 6), [8, 2, 2])
        self.check(bins, (4, 0, 999, 8), [4, 4, 0])
        self.check(bins, (4, 0, 999, 4), [12, 0, 4])
        self.check(bins, (4, 0, 999, 3), [-33])

    def test_bounds_that_meet_in_one_point(self):
        bins = [(10, 300, 5, 3), (10, 200, 9, 1)]
        self.check(bins, (2, 250, 250, 7), [4, 1, 1])
        self.check(bins, (3, 250, 250, 9), [-33])

    def test_each_bound_can_be_met_but_not_all_at_once(self):
        self.check([(5, 100, 0, 1), (5, 300, 9, 1)], (5, 300, 999, 8), [-33])

    def test_bounds_of_zero(self):
        self.check([(5, 1, 0, 1)], (5, 0, 0, 999), [-33])
        self.check([(5, 1, 0, 1)], (5, 0, 1, 0), [5, 5])

    def test_the_greatest_of_everything(self):
        self.check([(30, 999, 999, 99)] * 4, (30, 999, 999, 999), [2970, 30, 0, 0, 0])
        self.check([(30, 999, 999, 99)], (30, 999, 999, 998), [-33])


class OfTheSameCost(unittest.TestCase):
    def check(self, bins, request, answer):
        with self.subTest(bins=bins, request=request):
            self.assertEqual(last(*shop(bins, request), cheapest_blend()), answer)
            self.assertEqual(last(*shop(bins, request), make_cheapest_blend()), answer)

    def test_more_from_the_first_bin(self):
        self.check([(5, 300, 5, 2)] * 2, (6,) + WIDEST, [12, 5, 1])
        self.check([(5, 300, 5, 2)] * 4, (5,) + WIDEST, [10, 5, 0, 0, 0])
        self.check([(5, 300, 5, 2)] * 4, (12,) + WIDEST, [24, 5, 5, 2, 0])

    def test_more_from_the_second_bin_where_the_first_is_alike(self):
        self.check([(5, 300, 5, 9), (5, 300, 5, 2), (5, 300, 5, 2)], (6,) + WIDEST, [12, 0, 5, 1])
        self.check([(2, 300, 5, 1), (3, 300, 5, 2), (3, 300, 5, 2), (3, 300, 5, 2)], (7,) + WIDEST, [12, 2, 3, 2, 0])

    def test_more_from_the_third_bin_where_the_first_two_are_alike(self):
        self.check([(1, 300, 5, 1), (1, 300, 5, 1), (5, 300, 5, 2), (5, 300, 5, 2)], (4,) + WIDEST, [6, 1, 1, 2, 0])

    def test_different_flours_at_different_prices(self):
        # 2 * 2 + 0 costs what 1 + 3 does: [0, 2, 0], [1, 0, 1] are both valid.
        self.check([(5, 300, 5, 1), (5, 200, 5, 2), (5, 100, 5, 3)], (2, 200, 200, 999), [4, 1, 0, 1])
        self.check([(5, 200, 5, 2), (5, 300, 5, 1), (5, 100, 5, 3)], (2, 200, 200, 999), [4, 2, 0, 0])

    def test_the_bounds_come_before_the_choice(self):
        self.check([(5, 100, 5, 2), (5, 300, 5, 2)], (4, 150, 250, 999), [8, 3, 1])
        self.check([(5, 100, 5, 2), (5, 300, 5, 2)], (4, 151, 250, 999), [8, 2, 2])


class HowManyBins(unittest.TestCase):
    def test_no_bin(self):
        self.assertEqual(ask(create(), cheapest_blend(), make_cheapest_blend()), [[0], [-33], [-33]])
        for n in (1, 30):
            self.assertEqual(ask(*shop([], (n,) + WIDEST), cheapest_blend(), make_cheapest_blend())[2:],
                             [[-33], [-33]])

    def test_one_bin(self):
        for kilograms, n, answer in ((5, 5, [10, 5]), (5, 4, [8, 4]), (5, 6, [-33]), (0, 1, [-33]), (1, 1, [2, 1]),
                                     (30, 30, [60, 30]), (29, 30, [-33])):
            with self.subTest(kilograms=kilograms, n=n):
                self.assertEqual(last(*shop([(kilograms, 300, 5, 2)], (n,) + WIDEST), cheapest_blend()), answer)

    def test_four_bins(self):
        bins = [(10, 400, 9, 4), (10, 300, 5, 3), (10, 200, 4, 2), (10, 100, 1, 1)]
        self.assertEqual(last(*shop(bins, (20, 250, 300, 5)), cheapest_blend()), cheapest_by_force(bins,
                                                                                                (20, 250, 300, 5)))
        self.assertEqual(last(*shop(bins, (20,) + WIDEST), cheapest_blend()), [30, 0, 0, 10, 10])

    def test_empty_bins_among_four(self):
        bins = [(0, 300, 5, 1), (4, 300, 5, 3), (0, 300, 5, 1), (4, 300, 5, 2)]
        self.assertEqual(last(*shop(bins, (6,) + WIDEST), cheapest_blend()), [14, 0, 2, 0, 4])
        self.assertEqual(last(*shop(bins, (9,) + WIDEST), cheapest_blend()), [-33])

    def test_a_bin_that_was_emptied(self):
        bins = [(4, 300, 5, 1), (4, 300, 5, 3)]
        self.assertEqual(ask(*shop(bins, (4,) + WIDEST), cheapest_blend(), empty_bin(0), cheapest_blend(),
                             add_flour(0, 1), cheapest_blend())[4:],
                         [[4, 4, 0], [4], [12, 0, 4], [1], [10, 1, 3]])

    def test_empty_bins_alone(self):
        self.assertEqual(last(*shop([(0, 300, 5, 1)] * 4), cheapest_blend()), [-33])

    def test_the_blend_is_as_long_as_there_are_bins(self):
        calls = [create()]
        for count in range(1, 5):
            calls += [add_bin(5, 300, 5, 1), cheapest_blend()]
        self.assertEqual(ask(*calls)[2::2], [[1, 1], [1, 1, 0], [1, 1, 0, 0], [1, 1, 0, 0, 0]])

    def test_all_the_flour_there_is(self):
        bins = [(7, 100, 5, 1), (8, 200, 5, 2), (9, 300, 5, 3), (6, 400, 5, 4)]
        self.assertEqual(last(*shop(bins, (30,) + WIDEST), cheapest_blend()), [74, 7, 8, 9, 6])


class Make(unittest.TestCase):
    def test_the_flour_is_taken_out(self):
        self.assertEqual(ask(*shop([(10, 300, 5, 3), (8, 200, 9, 1)], (6, 250, 400, 7)), make_cheapest_blend(),
                             empty_bin(0), empty_bin(1))[4:], [[12, 3, 3], [7], [5]])

    def test_until_there_is_no_more(self):
        self.assertEqual(ask(*shop([(5, 300, 5, 3), (4, 300, 5, 1)], (4,) + WIDEST), make_cheapest_blend(),
                             make_cheapest_blend(), make_cheapest_blend(), empty_bin(0), empty_bin(1))[4:],
                         [[4, 0, 4], [12, 4, 0], [-33], [1], [0]])

    def test_to_the_last_kilogram(self):
        self.assertEqual(ask(*shop([(2, 300, 5, 3), (2, 300, 5, 1)], (4,) + WIDEST), make_cheapest_blend(),
                             cheapest_blend(), empty_bin(0), empty_bin(1))[4:], [[8, 2, 2], [-33], [0], [0]])

    def test_nothing_is_taken_where_no_blend_is_valid(self):
        self.assertEqual(ask(*shop([(5, 300, 5, 3)], (4, 301, 999, 999)), make_cheapest_blend(), empty_bin(0))[3:],
                         [[-33], [5]])


class Promise1(unittest.TestCase):
    def test_valid_and_none_costs_less(self):
        chance = random.Random(1)
        found = {True: 0, False: 0}
        for _ in range(600):
            bins, request = random_shop(chance)
            wanted = cheapest_by_force(bins, request)
            answer = last(*shop(bins, request), cheapest_blend())
            with self.subTest(bins=bins, request=request):
                self.assertEqual(answer, wanted)
                self.assertTrue(answer == [-33] or is_valid(bins, request, answer[1:]))
            found[answer == [-33]] += 1
        self.assertGreater(min(found.values()), 100)


if __name__ == "__main__":
    unittest.main()
