"""Operation 16: describe."""

import unittest

from tests.helper import (add_bin, add_flour, ask, create, describe, empty_bin, last, make_blend, make_cheapest_blend,
                          set_price, set_request, shop)

BINS = [(10, 300, 5, 3), (8, 200, 9, 1)]
REQUEST = (6, 250, 400, 7)


class Describe(unittest.TestCase):
    def check(self, calls, bins, request=REQUEST, spent=0):
        """Make the calls on an instance with BINS and REQUEST, and describe it."""
        wanted = [len(bins)] + [number for one in bins for number in one] + list(request) + [spent]
        with self.subTest(calls=calls):
            self.assertEqual(last(*shop(BINS, REQUEST), *calls, describe()), wanted)

    def test_after_create(self):
        self.assertEqual(ask(create(), describe()), [[0], [0, 1, 0, 999, 999, 0]])

    def test_after_a_second_create(self):
        self.assertEqual(last(*shop(BINS, REQUEST), make_cheapest_blend(), create(), describe()),
                         [0, 1, 0, 999, 999, 0])

    def test_after_add_bin(self):
        self.assertEqual(ask(create(), add_bin(0, 1, 0, 1), describe(), add_bin(30, 999, 998, 99), describe(),
                             add_bin(1, 2, 3, 4), describe(), add_bin(5, 6, 7, 8), describe())[2::2],
                         [[1, 0, 1, 0, 1, 1, 0, 999, 999, 0],
                          [2, 0, 1, 0, 1, 30, 999, 998, 99, 1, 0, 999, 999, 0],
                          [3, 0, 1, 0, 1, 30, 999, 998, 99, 1, 2, 3, 4, 1, 0, 999, 999, 0],
                          [4, 0, 1, 0, 1, 30, 999, 998, 99, 1, 2, 3, 4, 5, 6, 7, 8, 1, 0, 999, 999, 0]])

    def test_after_add_flour(self):
        self.check([add_flour(0, 20)], [(30, 300, 5, 3), (8, 200, 9, 1)])
        self.check([add_flour(1, 1), add_flour(1, 2)], [(10, 300, 5, 3), (11, 200, 9, 1)])

    def test_after_set_price(self):
        self.check([set_price(0, 99)], [(10, 300, 5, 99), (8, 200, 9, 1)])
        self.check([set_price(1, 7), set_price(0, 2)], [(10, 300, 5, 2), (8, 200, 9, 7)])

    def test_after_empty_bin(self):
        self.check([empty_bin(0)], [(0, 300, 5, 3), (8, 200, 9, 1)])
        self.check([empty_bin(1), empty_bin(1)], [(10, 300, 5, 3), (0, 200, 9, 1)])

    def test_after_set_request(self):
        self.check([set_request(30, 999, 999, 0)], BINS, request=(30, 999, 999, 0))
        self.check([set_request(1, 2, 3, 4), set_request(5, 6, 7, 8)], BINS, request=(5, 6, 7, 8))

    def test_after_make_cheapest_blend(self):
        self.check([make_cheapest_blend()], [(7, 300, 5, 3), (5, 200, 9, 1)], spent=12)
        self.check([make_cheapest_blend()] * 2, [(4, 300, 5, 3), (2, 200, 9, 1)], spent=24)

    def test_after_make_blend(self):
        self.check([make_blend([6, 0])], [(4, 300, 5, 3), (8, 200, 9, 1)], spent=18)
        self.check([make_blend([4, 2])], [(6, 300, 5, 3), (6, 200, 9, 1)], spent=14)

    def test_spent_after_several_blends(self):
        self.check([make_blend([4, 2]), make_cheapest_blend()], [(3, 300, 5, 3), (3, 200, 9, 1)], spent=26)
        self.check([make_blend([4, 2]), make_cheapest_blend(), make_blend([3, 3])],
                   [(0, 300, 5, 3), (0, 200, 9, 1)], spent=38)
        self.check([make_blend([4, 2]), set_price(0, 99), make_cheapest_blend(), set_price(0, 1), empty_bin(1)],
                   [(3, 300, 5, 1), (0, 200, 9, 1)], spent=314)

    def test_the_greatest_that_can_be_spent(self):
        refill = [make_cheapest_blend(), add_flour(0, 30)] * 28
        self.assertEqual(last(create(), add_bin(30, 999, 999, 99), set_request(30, 0, 999, 999), *refill,
                              describe()), [1, 30, 999, 999, 99, 30, 0, 999, 999, 28 * 2970])

    def test_twice_the_same(self):
        found = ask(*shop(BINS, REQUEST), describe(), describe(), describe())[4:]
        self.assertEqual(found, [[2, 10, 300, 5, 3, 8, 200, 9, 1, 6, 250, 400, 7, 0]] * 3)


if __name__ == "__main__":
    unittest.main()
