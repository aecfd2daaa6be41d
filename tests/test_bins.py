"""Operations 1 to 4: add_bin, add_flour, set_price, empty_bin."""

import unittest

from tests.helper import (FAR_OUT, LEAST, MOST, NO_BIN_OF_TWO, add_bin, add_flour, ask, cheapest_blend, create,
                          empty_bin, last, make_blend, set_price, set_request, shop)

TWO_BINS = [(10, 300, 5, 3), (8, 200, 9, 1)]
FULL = [(1, 1, 1, 1)] * 4


class AddBin(unittest.TestCase):
    def check(self, place, right, wrong):
        for value in right + wrong:
            one = [10, 300, 5, 3]
            one[place] = value
            with self.subTest(place=place, value=value):
                self.assertEqual(last(create(), add_bin(*one)), [0] if value in right else [-22])

    def test_the_index_counts_up(self):
        self.assertEqual(ask(*shop(FULL)), [[0], [0], [1], [2], [3]])

    def test_range_of_kilograms(self):
        self.check(0, (0, 1, 29, 30), (-1, 31) + FAR_OUT)

    def test_range_of_strength(self):
        self.check(1, (1, 2, 998, 999), (-1, 0, 1000) + FAR_OUT)

    def test_range_of_ash(self):
        self.check(2, (0, 1, 998, 999), (-1, 1000) + FAR_OUT)

    def test_range_of_price(self):
        self.check(3, (1, 2, 98, 99), (-1, 0, 100) + FAR_OUT)

    def test_all_at_their_least_and_at_their_greatest(self):
        self.assertEqual(ask(create(), add_bin(0, 1, 0, 1), add_bin(30, 999, 999, 99)), [[0], [0], [1]])

    def test_a_fifth_bin_is_refused(self):
        self.assertEqual(last(*shop(FULL), add_bin(1, 1, 1, 1)), [-28])
        self.assertEqual(last(*shop(FULL), add_bin(0, 1, 0, 1)), [-28])

    def test_the_range_is_checked_before_the_number_of_bins(self):
        for wrong in ((31, 1, 1, 1), (-1, 1, 1, 1), (1, 0, 1, 1), (1, 1, 1000, 1), (1, 1, 1, 0), (LEAST, 1, 1, MOST)):
            with self.subTest(wrong=wrong):
                self.assertEqual(last(*shop(FULL), add_bin(*wrong)), [-22])

    def test_an_emptied_bin_still_counts(self):
        self.assertEqual(last(*shop(FULL), empty_bin(3), add_bin(1, 1, 1, 1)), [-28])

    def test_a_refused_bin_takes_no_index(self):
        self.assertEqual(ask(create(), add_bin(31, 1, 1, 1), add_bin(1, 1, 1, 1), add_bin(1, 0, 1, 1),
                             add_bin(1, 1, 1, 1)), [[0], [-22], [0], [-22], [1]])

    def test_the_bin_holds_what_was_handed_in(self):
        self.assertEqual(ask(*shop([(7, 300, 5, 3)]), set_price(0, 9), empty_bin(0))[2:], [[3], [7]])
        for request, answer in (((7, 300, 300, 5), [21, 7]), ((7, 301, 999, 5), [-33]), ((7, 0, 299, 5), [-33]),
                                ((7, 300, 300, 4), [-33]), ((8, 300, 300, 5), [-33])):
            with self.subTest(request=request):
                self.assertEqual(last(*shop([(7, 300, 5, 3)], request), cheapest_blend()), answer)


class AddFlour(unittest.TestCase):
    def test_the_total_afterwards(self):
        self.assertEqual(ask(*shop(TWO_BINS), add_flour(0, 1), add_flour(1, 2), add_flour(0, 3))[3:],
                         [[11], [10], [14]])

    def test_the_flour_is_in_the_bin_and_in_no_other(self):
        self.assertEqual(ask(*shop(TWO_BINS), add_flour(1, 5), empty_bin(0), empty_bin(1))[3:], [[13], [10], [13]])

    def test_no_such_bin(self):
        for i in NO_BIN_OF_TWO:
            with self.subTest(i=i):
                self.assertEqual(last(*shop(TWO_BINS), add_flour(i, 1)), [-2])

    def test_no_bin_at_all(self):
        for i in (0, 1, -1) + FAR_OUT:
            with self.subTest(i=i):
                self.assertEqual(last(create(), add_flour(i, 1)), [-2])

    def test_range_of_kilograms(self):
        for kilograms in (1, 2, 19, 20):
            with self.subTest(kilograms=kilograms):
                self.assertEqual(last(*shop(TWO_BINS), add_flour(0, kilograms)), [10 + kilograms])
        for kilograms in (0, -1, -10, 21, 22, 30, 31) + FAR_OUT:
            with self.subTest(kilograms=kilograms):
                self.assertEqual(last(*shop(TWO_BINS), add_flour(0, kilograms)), [-22])

    def test_an_empty_and_a_full_bin(self):
        self.assertEqual(ask(*shop([(0, 1, 0, 1)]), add_flour(0, 31), add_flour(0, 30), add_flour(0, 1),
                             add_flour(0, 0))[2:], [[-22], [30], [-22], [-22]])

    def test_the_bin_is_checked_before_the_range(self):
        for kilograms in (0, -1, 31) + FAR_OUT:
            with self.subTest(kilograms=kilograms):
                self.assertEqual(last(*shop(TWO_BINS), add_flour(2, kilograms)), [-2])
                self.assertEqual(last(*shop(TWO_BINS), add_flour(-1, kilograms)), [-2])

    def test_a_refused_amount_is_not_added(self):
        self.assertEqual(ask(*shop(TWO_BINS), add_flour(0, 21), add_flour(0, -1), empty_bin(0))[3:],
                         [[-22], [-22], [10]])


class SetPrice(unittest.TestCase):
    def test_the_previous_price(self):
        self.assertEqual(ask(*shop(TWO_BINS), set_price(0, 50), set_price(1, 60), set_price(0, 70), set_price(1, 1),
                             set_price(0, 70), set_price(0, 2))[3:], [[3], [1], [50], [60], [70], [70]])

    def test_range_of_the_price(self):
        for price in (1, 2, 98, 99):
            with self.subTest(price=price):
                self.assertEqual(ask(*shop(TWO_BINS), set_price(1, price), set_price(1, 5))[3:], [[1], [price]])
        for price in (0, -1, 100) + FAR_OUT:
            with self.subTest(price=price):
                self.assertEqual(ask(*shop(TWO_BINS), set_price(1, price), set_price(1, 5))[3:], [[-22], [1]])

    def test_no_such_bin(self):
        for i in NO_BIN_OF_TWO:
            with self.subTest(i=i):
                self.assertEqual(last(*shop(TWO_BINS), set_price(i, 1)), [-2])
        self.assertEqual(last(create(), set_price(0, 1)), [-2])

    def test_the_bin_is_checked_before_the_range(self):
        for price in (0, 100, LEAST, MOST):
            with self.subTest(price=price):
                self.assertEqual(last(*shop(TWO_BINS), set_price(2, price)), [-2])
                self.assertEqual(last(*shop(TWO_BINS), set_price(-1, price)), [-2])

    def test_the_cheapest_blend_goes_by_the_new_price(self):
        found = ask(*shop([(5, 300, 5, 3), (5, 300, 5, 4)], (5, 0, 999, 999)), cheapest_blend(), set_price(0, 6),
                    cheapest_blend())
        self.assertEqual(found[4:], [[15, 5, 0], [3], [20, 0, 5]])


class EmptyBin(unittest.TestCase):
    def test_what_was_removed(self):
        self.assertEqual(ask(*shop([(0, 1, 0, 1), (30, 1, 0, 1), (7, 1, 0, 1)]), empty_bin(0), empty_bin(1),
                             empty_bin(2), empty_bin(2))[4:], [[0], [30], [7], [0]])

    def test_the_bin_remains(self):
        found = ask(*shop(TWO_BINS, (8, 0, 999, 999)), empty_bin(0), cheapest_blend(), make_blend([0, 8]),
                    set_price(0, 5), add_flour(0, 4), add_bin(1, 1, 1, 1))
        self.assertEqual(found[4:], [[10], [8, 0, 8], [8], [3], [4], [2]])

    def test_the_flour_keeps_its_strength_ash_and_price(self):
        self.assertEqual(ask(*shop([(7, 300, 5, 3)], (7, 300, 300, 5)), empty_bin(0), add_flour(0, 7),
                             cheapest_blend())[3:], [[7], [7], [21, 7]])

    def test_no_such_bin(self):
        for i in NO_BIN_OF_TWO:
            with self.subTest(i=i):
                self.assertEqual(last(*shop(TWO_BINS), empty_bin(i)), [-2])
        self.assertEqual(last(create(), empty_bin(0)), [-2])

    def test_the_last_of_four_bins(self):
        self.assertEqual(ask(*shop(FULL), empty_bin(3), empty_bin(4))[5:], [[1], [-2]])


class NoBlendBehindAnEmptyBin(unittest.TestCase):
    def test_an_emptied_shop_has_no_blend(self):
        self.assertEqual(ask(*shop(TWO_BINS), empty_bin(0), empty_bin(1), set_request(1, 0, 999, 999),
                             cheapest_blend())[3:], [[10], [8], [0], [-33]])


if __name__ == "__main__":
    unittest.main()
