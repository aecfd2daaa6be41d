"""Operations 14 and 15: cheapest_if_price and cheapest_without."""

import random
import unittest

from tests.helper import (FAR_OUT, LEAST, MOST, NO_BIN_OF_TWO, ask, cheapest_blend, cheapest_by_force,
                          cheapest_if_price, cheapest_without, create, describe, empty_bin, last, random_shop,
                          set_price, shop)

BINS = [(10, 300, 5, 3), (8, 200, 9, 1)]
REQUEST = (6, 250, 400, 7)
WIDEST = (0, 999, 999)


class CheapestIfPrice(unittest.TestCase):
    def check(self, i, price, answer, bins=BINS, request=REQUEST):
        with self.subTest(i=i, price=price, bins=bins, request=request):
            self.assertEqual(last(*shop(bins, request), cheapest_if_price(i, price)), answer)

    def test_another_blend_gets_the_cheapest(self):
        self.check(1, 4, [18, 6, 0])
        self.check(0, 1, [6, 6, 0])
        self.check(1, 2, [15, 3, 3])

    def test_the_same_price(self):
        self.check(0, 3, [12, 3, 3])
        self.check(1, 1, [12, 3, 3])

    def test_the_first_bin_is_chosen_where_the_cost_is_the_same(self):
        self.check(1, 3, [18, 6, 0])
        self.check(0, 1, [4, 4, 0], request=(4,) + WIDEST)
        self.check(0, 2, [4, 0, 4], request=(4,) + WIDEST)

    def test_range_of_the_price(self):
        self.check(1, 1, [12, 3, 3])
        self.check(1, 99, [18, 6, 0])
        self.check(0, 98, [297, 3, 3])
        self.check(0, 99, [300, 3, 3])
        for price in (0, -1, 100) + FAR_OUT:
            self.check(0, price, [-22])
            self.check(1, price, [-22])

    def test_no_such_bin(self):
        for i in NO_BIN_OF_TWO:
            self.check(i, 4, [-2])
        for i in (0, 1, -1) + FAR_OUT:
            self.check(i, 4, [-2], bins=[])
        self.assertEqual(last(create(), cheapest_if_price(0, 4)), [-2])

    def test_no_valid_blend(self):
        self.check(0, 4, [-33], request=(6, 301, 999, 999))
        self.check(1, 1, [-33], request=(19,) + WIDEST)
        self.check(0, 1, [-33], bins=[(0, 300, 5, 3)], request=(1,) + WIDEST)

    def test_the_bin_is_checked_before_the_price(self):
        for i in NO_BIN_OF_TWO:
            for price in (0, 100, LEAST, MOST):
                self.check(i, price, [-2])
        self.check(0, 0, [-2], bins=[])

    def test_the_bin_is_checked_before_the_blend(self):
        self.check(2, 4, [-2], request=(19,) + WIDEST)
        self.check(0, 4, [-2], bins=[])

    def test_the_price_is_checked_before_the_blend(self):
        for price in (0, 100, LEAST, MOST):
            self.check(0, price, [-22], request=(19,) + WIDEST)
            self.check(1, price, [-22], request=(6, 301, 999, 999))

    def test_each_of_four_bins(self):
        bins = [(3, 300, 5, 5)] * 4
        for i in range(4):
            blend = [0] * 4
            blend[i] = 3
            self.check(i, 1, [3] + blend, bins=bins, request=(3,) + WIDEST)
        self.check(4, 1, [-2], bins=bins, request=(3,) + WIDEST)

    def test_the_price_stays(self):
        found = ask(*shop(BINS, REQUEST), cheapest_if_price(1, 4), cheapest_blend(), set_price(1, 9))
        self.assertEqual(found[4:], [[18, 6, 0], [12, 3, 3], [1]])

    def test_against_set_price(self):
        chance = random.Random(15)
        found = {True: 0, False: 0}
        for _ in range(400):
            bins, request = random_shop(chance)
            i, price = chance.randint(0, 4), chance.randint(1, 99)
            before = shop(bins, request)
            answer = last(*before, cheapest_if_price(i, price))
            with self.subTest(bins=bins, request=request, i=i, price=price):
                if i >= len(bins):
                    self.assertEqual(answer, [-2])
                else:
                    self.assertEqual(answer, last(*before, set_price(i, price), cheapest_blend()))
                    changed = [one[:3] + (price,) if j == i else one for j, one in enumerate(bins)]
                    self.assertEqual(answer, cheapest_by_force(changed, request))
                    found[answer == [-33]] += 1
        self.assertGreater(min(found.values()), 50)


class CheapestWithout(unittest.TestCase):
    def check(self, i, answer, bins=BINS, request=REQUEST):
        with self.subTest(i=i, bins=bins, request=request):
            self.assertEqual(last(*shop(bins, request), cheapest_without(i)), answer)

    def test_the_other_bins_give_the_blend(self):
        self.check(1, [18, 6, 0])
        self.check(0, [6, 0, 6], request=(6,) + WIDEST)
        self.check(0, [8, 0, 8], request=(8,) + WIDEST)

    def test_no_valid_blend_without(self):
        self.check(0, [-33])
        self.check(0, [-33], request=(9,) + WIDEST)
        self.check(1, [-33], request=(11,) + WIDEST)

    def test_no_valid_blend_with_it_either(self):
        self.check(0, [-33], request=(19,) + WIDEST)
        self.check(1, [-33], request=(6, 301, 999, 999))

    def test_an_empty_bin(self):
        bins = [(0, 300, 5, 1), (4, 300, 5, 3)]
        self.check(0, [12, 0, 4], bins=bins, request=(4,) + WIDEST)
        self.check(1, [-33], bins=bins, request=(4,) + WIDEST)

    def test_the_only_bin(self):
        self.check(0, [-33], bins=[(30, 300, 5, 1)], request=(1,) + WIDEST)

    def test_no_such_bin(self):
        for i in NO_BIN_OF_TWO:
            self.check(i, [-2])
        for i in (0, 1, -1) + FAR_OUT:
            self.check(i, [-2], bins=[])
        self.assertEqual(last(create(), cheapest_without(0)), [-2])

    def test_the_bin_is_checked_before_the_blend(self):
        for i in NO_BIN_OF_TWO:
            self.check(i, [-2], request=(19,) + WIDEST)

    def test_each_of_four_bins(self):
        bins = [(3, 300, 5, price) for price in (1, 2, 3, 4)]
        for i, answer in enumerate(([6, 0, 3, 0, 0], [3, 3, 0, 0, 0], [3, 3, 0, 0, 0], [3, 3, 0, 0, 0])):
            self.check(i, answer, bins=bins, request=(3,) + WIDEST)
        for i, answer in enumerate(([27, 0, 3, 3, 3], [24, 3, 0, 3, 3], [21, 3, 3, 0, 3], [18, 3, 3, 3, 0], [-2])):
            self.check(i, answer, bins=bins, request=(9,) + WIDEST)

    def test_the_flour_stays(self):
        found = ask(*shop(BINS, REQUEST), cheapest_without(1), cheapest_blend(), empty_bin(1))
        self.assertEqual(found[4:], [[18, 6, 0], [12, 3, 3], [8]])

    def test_against_empty_bin(self):
        chance = random.Random(16)
        found = {True: 0, False: 0}
        for _ in range(400):
            bins, request = random_shop(chance)
            i = chance.randint(0, 4)
            before = shop(bins, request)
            answer = last(*before, cheapest_without(i))
            with self.subTest(bins=bins, request=request, i=i):
                if i >= len(bins):
                    self.assertEqual(answer, [-2])
                else:
                    self.assertEqual(answer, last(*before, empty_bin(i), cheapest_blend()))
                    changed = [(0,) + one[1:] if j == i else one for j, one in enumerate(bins)]
                    self.assertEqual(answer, cheapest_by_force(changed, request))
                    found[answer == [-33]] += 1
        self.assertGreater(min(found.values()), 50)


class OneBehindAnother(unittest.TestCase):
    def test_what_was_supposed_is_not_kept(self):
        found = ask(*shop(BINS, REQUEST), cheapest_if_price(0, 99), cheapest_if_price(1, 99), cheapest_without(1),
                    cheapest_without(0), cheapest_if_price(0, 99), cheapest_blend(), describe())
        self.assertEqual(found[4:], [[300, 3, 3], [18, 6, 0], [18, 6, 0], [-33], [300, 3, 3], [12, 3, 3],
                                     [2, 10, 300, 5, 3, 8, 200, 9, 1, 6, 250, 400, 7, 0]])


if __name__ == "__main__":
    unittest.main()
