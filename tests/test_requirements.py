"""Promises 4, 5 and 6 of the document. Promise 1 is in test_cheapest, 2 in test_obstacle, 3 in test_averages."""

import random
import unittest

from flourblend.bakery import Bakery
from tests.helper import (LEAST, MOST, add_bin, add_flour, ask, cheapest_blend, cheapest_if_price, cheapest_without,
                          check_blend, count_blends, describe, empty_bin, extreme_averages, greatest_amount, last,
                          make_blend, make_cheapest_blend, obstacle, random_shop, set_price, set_request, shop, total)

BINS = [(10, 300, 5, 3), (8, 200, 9, 1)]
FULL_BINS = BINS + [(0, 100, 1, 2), (30, 999, 999, 99)]
REQUEST = (6, 250, 400, 7)

# Calls on an instance with FULL_BINS and REQUEST, with a blend made and its flour filled up again.
REFUSED = [
    (add_bin(31, 300, 5, 3), -22), (add_bin(10, 0, 5, 3), -22), (add_bin(10, 300, MOST, 3), -22),
    (add_bin(10, 300, 5, LEAST), -22), (add_bin(10, 300, 5, 3), -28),
    (add_flour(4, 1), -2), (add_flour(-1, 1), -2), (add_flour(0, 0), -22), (add_flour(0, 21), -22),
    (add_flour(1, -8), -22), (add_flour(3, 1), -22), (add_flour(0, LEAST), -22),
    (set_price(4, 5), -2), (set_price(-1, 5), -2), (set_price(0, 0), -22), (set_price(0, 100), -22),
    (empty_bin(4), -2), (empty_bin(-1), -2),
    (set_request(0, 0, 999, 999), -22), (set_request(6, 401, 400, 7), -22),
    (set_request(7, 0, 999, 1000), -22), (set_request(7, -1, 999, 999), -22),
    (make_blend([3, 3]), -22), (make_blend([3, 3, 0, 31]), -22), (make_blend([]), -22), (make_blend([1] * 70), -22),
    (make_blend([0, 0, 6, 0]), -6), (make_blend([2, 4, 0, 0]), -33), (make_blend([3, 3, 1, 0]), -6),
    (make_blend([3, 2, 0, 0]), -33),
    (check_blend([3, 3]), -22), (check_blend([3, 3, 0, 31]), -22), (check_blend([]), -22),
    (check_blend([-1] * 70), -22),
    (extreme_averages(0), -22), (extreme_averages(31), -22), (extreme_averages(MOST), -22),
    (cheapest_if_price(4, 5), -2), (cheapest_if_price(-1, 5), -2), (cheapest_if_price(0, 0), -22),
    (cheapest_if_price(1, 100), -22), (cheapest_without(4), -2), (cheapest_without(LEAST), -2),
    (cheapest_without(0), -33),
]

# The operations 6 and 9 to 16, with what they are asked for on an instance with four bins.
QUERIES = [
    cheapest_blend(), check_blend([3, 3, 0, 0]), check_blend([2, 4, 0, 0]), check_blend([0] * 4),
    check_blend([30] * 4), count_blends(), greatest_amount(), extreme_averages(1), extreme_averages(12),
    extreme_averages(30), obstacle(), cheapest_if_price(1, 4), cheapest_if_price(0, 99), cheapest_if_price(3, 1),
    cheapest_without(0), cheapest_without(1), cheapest_without(3), describe(),
]


class Promise4(unittest.TestCase):
    """Wider bounds never raise the cost of the cheapest blend."""

    def test_wider_bounds(self):
        chance = random.Random(4)
        compared = 0
        for _ in range(400):
            bins, request = random_shop(chance)
            n, min_strength, max_strength, max_ash = request
            wider = (n, max(0, min_strength - chance.choice([0, 1, 50])),
                     min(999, max_strength + chance.choice([0, 1, 50])), min(999, max_ash + chance.choice([0, 1, 3])))
            narrow, wide = ask(*shop(bins, request), cheapest_blend(), set_request(*wider), cheapest_blend())[-3::2]
            if narrow != [-33]:
                compared += 1
                with self.subTest(bins=bins, request=request, wider=wider):
                    self.assertNotEqual(wide, [-33])
                    self.assertLessEqual(wide[0], narrow[0])
        self.assertGreater(compared, 100)

    def test_one_bound_after_another(self):
        found = ask(*shop(BINS), set_request(6, 300, 300, 5), cheapest_blend(), set_request(6, 280, 300, 5),
                    cheapest_blend(), set_request(6, 280, 300, 6), cheapest_blend(), set_request(6, 0, 300, 9),
                    cheapest_blend(), set_request(6, 0, 999, 999), cheapest_blend())
        self.assertEqual(found[4::2], [[18, 6, 0], [18, 6, 0], [16, 5, 1], [6, 0, 6], [6, 0, 6]])


class Promise5(unittest.TestCase):
    """Making a blend removes exactly its kilograms and increases `spent` by its cost."""

    def check(self, bins, before, after, blend, cost):
        """Compare two answers of describe, from before and after the blend was made."""
        wanted = list(before)
        for i, taken in enumerate(blend):
            wanted[1 + 4 * i] -= taken
        wanted[-1] += cost
        self.assertEqual(after, wanted)
        self.assertEqual(cost, total(bins, blend, 3))

    def test_make_cheapest_blend(self):
        chance = random.Random(5)
        made = 0
        for _ in range(200):
            bins, request = random_shop(chance)
            found = ask(*shop(bins, request), describe(), *[make_cheapest_blend(), describe()] * 12)[len(bins) + 2:]
            with self.subTest(bins=bins, request=request):
                for before, answer, after in zip(found[::2], found[1::2], found[2::2]):
                    if answer == [-33]:
                        self.assertEqual(after, before)
                    else:
                        made += 1
                        self.check(bins, before, after, answer[1:], answer[0])
        self.assertGreater(made, 100)

    def test_make_blend(self):
        blends = [[4, 2], [3, 3], [3, 3]]
        calls = [describe()]
        for blend in blends:
            calls += [make_blend(blend), describe()]
        found = ask(*shop(BINS, REQUEST), *calls)[4:]
        self.assertEqual(found[1::2], [[14], [12], [12]])
        for i, blend in enumerate(blends):
            self.check(BINS, found[2 * i], found[2 * i + 2], blend, found[2 * i + 1][0])
        self.assertEqual(found[-1][-1], 38)

    def test_a_changed_price_leaves_spent_as_it_was(self):
        found = ask(*shop(BINS, REQUEST), make_blend([3, 3]), set_price(0, 9), describe(), make_blend([3, 3]),
                    describe())[4:]
        self.assertEqual([found[2][-1], found[4][-1]], [12, 12 + 30])

    def test_only_making_a_blend_spends(self):
        spent = [answer[-1] for answer in ask(
            *shop(BINS, REQUEST), add_flour(0, 5), describe(), empty_bin(1), describe(), set_price(0, 1), describe(),
            cheapest_blend(), describe(), make_blend([2, 4]), describe(), make_cheapest_blend(), describe())[5::2]]
        self.assertEqual(spent, [0, 0, 0, 0, 0, 6])

    def test_the_blend_handed_in_is_not_changed(self):
        blend = [3, 3]
        bakery = Bakery()
        for one in BINS:
            bakery.add_bin(*one)
        bakery.set_request(*REQUEST)
        self.assertEqual(bakery.check_blend(blend)[0], 1)
        self.assertEqual(bakery.make_blend(blend), [12])
        self.assertEqual(blend, [3, 3])


class Promise6(unittest.TestCase):
    """A call that returns an error leaves the instance unchanged, and so do the operations 6 and 9 to 16."""

    def ahead(self):
        return shop(FULL_BINS, REQUEST) + [make_cheapest_blend(), add_flour(0, 3), add_flour(1, 3)]

    def check(self, ahead, call, answer=None):
        """Compare what is described, and what is answered to all the queries, before and after the call."""
        asked = [describe()] + QUERIES
        with self.subTest(call=call):
            found = ask(*ahead, *asked, call, *asked)[len(ahead):]
            self.assertEqual(found[len(asked) + 1:], found[:len(asked)])
            if answer is not None:
                self.assertEqual(found[len(asked)], answer)

    def test_after_an_error(self):
        for call, code in REFUSED:
            self.check(self.ahead(), call, [code])

    def test_after_an_error_on_a_new_instance(self):
        for call in (add_bin(0, 0, 0, 0), add_flour(0, 1), set_price(0, 1), empty_bin(0), set_request(31, 0, 1, 1),
                     cheapest_blend(), make_cheapest_blend(), make_blend([]), make_blend([1]), check_blend([1]),
                     extreme_averages(1), extreme_averages(0), cheapest_if_price(0, 1), cheapest_without(0)):
            with self.subTest(call=call):
                found = ask([0], describe(), call, describe())
                self.assertLess(found[2][0], 0)
                self.assertEqual(found[3], [0, 1, 0, 999, 999, 0])
                self.assertEqual(found[1], found[3])

    def test_where_no_blend_is_valid(self):
        for bins, request in ((FULL_BINS, (6, 301, 302, 7)), (BINS, (19, 0, 999, 999)), ([], REQUEST)):
            for call in (cheapest_blend(), make_cheapest_blend(), cheapest_if_price(0, 4), cheapest_without(0)):
                self.check(shop(bins, request), call, [-33] if bins or call in ([6], [7]) else [-2])

    def test_after_each_query(self):
        for call in QUERIES:
            self.check(self.ahead(), call)

    def test_after_each_query_where_it_is_refused(self):
        for bins, request in (([], REQUEST), (BINS[:1], (30, 999, 999, 0)), ([(0, 1, 0, 1)] * 4, REQUEST)):
            for call in QUERIES:
                self.check(shop(bins, request), call)

    def test_the_flour_is_there_after_all_queries(self):
        found = ask(*self.ahead(), *QUERIES, make_blend([6, 0, 0, 0]), make_cheapest_blend(), describe())
        self.assertEqual(found[-3:], [[18], [12, 3, 3, 0, 0],
                                      [4, 1, 300, 5, 3, 5, 200, 9, 1, 0, 100, 1, 2, 30, 999, 999, 99] + list(REQUEST)
                                      + [42]])

    def test_an_error_at_the_start_is_forgotten_by_the_end(self):
        self.assertEqual(last(*shop(BINS, REQUEST), make_blend([9, 9]), make_cheapest_blend()), [12, 3, 3])


if __name__ == "__main__":
    unittest.main()
