"""Operation 13: obstacle, and promise 2."""

import random
import unittest

from tests.helper import (add_flour, ask, cheapest_blend, count_blends, create, empty_bin, last, make_cheapest_blend,
                          obstacle, obstacle_by_force, random_shop, set_request, shop)

BINS = [(10, 300, 5, 3), (8, 200, 9, 1)]
WIDEST = (0, 999, 999)


class Obstacle(unittest.TestCase):
    def check(self, bins, request, code):
        with self.subTest(bins=bins, request=request):
            self.assertEqual(last(*shop(bins, request), obstacle()), [code])

    def test_none(self):
        self.check(BINS, (6, 250, 400, 7), 0)
        self.check(BINS, (18,) + WIDEST, 0)
        self.check(BINS, (1,) + WIDEST, 0)

    def test_no_blend_of_this_weight(self):
        self.check(BINS, (18,) + WIDEST, 0)
        self.check(BINS, (19,) + WIDEST, 1)
        self.check(BINS, (20,) + WIDEST, 1)

    def test_all_too_weak(self):
        self.check(BINS, (6, 300, 999, 999), 0)
        self.check(BINS, (6, 301, 999, 999), 2)
        self.check(BINS, (12, 283, 999, 999), 0)
        self.check(BINS, (12, 284, 999, 999), 2)

    def test_all_too_strong(self):
        self.check(BINS, (6, 0, 200, 999), 0)
        self.check(BINS, (6, 0, 199, 999), 3)
        self.check(BINS, (12, 0, 234, 999), 0)
        self.check(BINS, (12, 0, 233, 999), 3)

    def test_too_much_ash_in_all(self):
        self.check(BINS, (6, 0, 999, 5), 0)
        self.check(BINS, (6, 0, 999, 4), 4)
        self.check(BINS, (12, 0, 999, 6), 0)
        self.check(BINS, (12, 0, 999, 5), 4)

    def test_each_bound_alone_can_be_kept(self):
        bins = [(5, 100, 0, 1), (5, 300, 9, 1)]
        self.check(bins, (5, 300, 999, 9), 0)
        self.check(bins, (5, 300, 999, 8), 5)
        # Averages of 100, 140, 180 and so on: none between the bounds, though some beyond each.
        self.check(bins, (5, 141, 179, 999), 5)
        self.check(bins, (5, 140, 179, 999), 0)
        self.check(bins, (5, 141, 180, 999), 0)
        self.check([(5, 300, 0, 1), (5, 100, 9, 1)], (5, 0, 100, 8), 5)

    def test_the_weight_comes_first(self):
        for bounds in ((999, 999, 0), (0, 0, 0), (250, 260, 0), (301, 999, 999), (0, 999, 0)):
            self.check(BINS, (19,) + bounds, 1)

    def test_too_weak_comes_before_the_ash(self):
        self.check(BINS, (6, 301, 999, 4), 2)
        self.check(BINS, (6, 301, 301, 0), 2)
        self.check(BINS, (6, 300, 300, 4), 4)

    def test_too_strong_comes_before_the_ash(self):
        self.check(BINS, (6, 0, 199, 4), 3)
        self.check(BINS, (6, 0, 0, 0), 3)
        self.check(BINS, (6, 0, 200, 4), 4)

    def test_the_ash_comes_before_the_bounds_together(self):
        bins = [(5, 100, 2, 1), (5, 300, 9, 1)]
        self.check(bins, (5, 141, 179, 1), 4)
        self.check(bins, (5, 141, 179, 2), 5)

    def test_no_bin(self):
        self.assertEqual(last(create(), obstacle()), [1])
        for request in ((1,) + WIDEST, (30,) + WIDEST, (1, 999, 999, 0), (1, 0, 0, 0)):
            self.check([], request, 1)

    def test_one_bin(self):
        one = [(7, 300, 5, 2)]
        for request, code in (((7, 300, 300, 5), 0), ((8, 300, 300, 5), 1), ((7, 301, 999, 5), 2),
                              ((7, 0, 299, 5), 3), ((7, 300, 300, 4), 4), ((1, 300, 300, 5), 0)):
            self.check(one, request, code)

    def test_four_bins(self):
        bins = [(10, 400, 9, 4), (10, 300, 5, 3), (10, 200, 4, 2), (9, 100, 1, 1)]
        for request, code in (((30,) + WIDEST, 0), ((20, 350, 999, 999), 0), ((20, 351, 999, 999), 2),
                              ((20, 0, 160, 999), 0), ((20, 0, 159, 999), 3), ((20, 0, 999, 3), 0),
                              ((20, 0, 999, 2), 4), ((20, 350, 999, 6), 5), ((20, 350, 999, 7), 0)):
            self.check(bins, request, code)
        self.check([(30, 999, 999, 99)] * 4, (30, 999, 999, 999), 0)
        self.check([(30, 999, 999, 99)] * 4, (30, 0, 998, 998), 3)

    def test_empty_bins(self):
        bins = [(0, 999, 0, 1), (4, 300, 5, 1), (0, 1, 0, 1), (4, 200, 7, 1)]
        for request, code in (((8,) + WIDEST, 0), ((9,) + WIDEST, 1), ((4, 301, 999, 999), 2), ((4, 0, 199, 999), 3),
                              ((4, 0, 999, 4), 4), ((4, 300, 300, 5), 0), ((8, 250, 250, 5), 4), ((5, 221, 239, 999), 5)):
            self.check(bins, request, code)
        self.check([(0, 999, 0, 1)] * 4, (1,) + WIDEST, 1)

    def test_after_the_flour_or_the_request_has_changed(self):
        self.assertEqual(ask(*shop(BINS, (6, 250, 400, 7)), make_cheapest_blend(), obstacle(), make_cheapest_blend(),
                             obstacle(), set_request(6, 267, 999, 999), obstacle(), add_flour(0, 1), obstacle(),
                             empty_bin(1), obstacle())[4:],
                         [[12, 3, 3], [0], [12, 3, 3], [0], [0], [2], [5], [0], [2], [1]])

    def test_against_brute_force(self):
        chance = random.Random(14)
        found = [0] * 6
        for _ in range(1500):
            bins, request = random_shop(chance)
            lower = chance.choice([request[1], chance.randint(0, 400)])
            request = (request[0], lower, max(lower, chance.choice([request[2], lower + 20])),
                       chance.choice([request[3], 2]))
            code = obstacle_by_force(bins, request)
            found[code] += 1
            self.check(bins, request, code)
        self.assertGreater(min(found), 20)


class Promise2(unittest.TestCase):
    """The obstacle is 0 if and only if there is a valid blend."""

    def test_no_obstacle_where_there_is_a_cheapest_blend(self):
        chance = random.Random(2)
        found = {True: 0, False: 0}
        for _ in range(500):
            bins, request = random_shop(chance)
            cheapest, code, counts = ask(*shop(bins, request), cheapest_blend(), obstacle(), count_blends())[-3:]
            free = code == [0]
            found[free] += 1
            with self.subTest(bins=bins, request=request):
                self.assertEqual(free, cheapest != [-33])
                self.assertEqual(free, counts[1] > 0)
        self.assertGreater(min(found.values()), 100)


if __name__ == "__main__":
    unittest.main()
