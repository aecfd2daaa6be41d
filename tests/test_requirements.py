"""Promises 4, 5 and 6 of the document, as far as they speak of the operations 0 to 8."""

import random
import unittest

from flourblend.bakery import Bakery
from tests.helper import (LEAST, MOST, add_bin, add_flour, ask, cheapest_blend, empty_bin, last, make_blend,
                          make_cheapest_blend, probe, random_shop, set_price, set_request, shop, total)

BINS = [(10, 300, 5, 3), (8, 200, 9, 1)]
FULL_BINS = BINS + [(0, 100, 1, 2), (30, 999, 999, 99)]
REQUEST = (6, 250, 400, 7)


def bakery_with(bins, request):
    bakery = Bakery()
    for one in bins:
        bakery.add_bin(*one)
    bakery.set_request(*request)
    return bakery


def state(bakery):
    """All that the instance holds, told in numbers."""
    request = bakery.request
    return ([(one.kilograms, one.strength, one.ash, one.price) for one in bakery.bins],
            (request.n, request.min_strength, request.max_strength, request.max_ash), bakery.spent)


def refused_calls():
    """Calls on an instance with FULL_BINS and REQUEST that are refused: name, arguments, code."""
    return [
        ("add_bin", (31, 300, 5, 3), -22), ("add_bin", (10, 0, 5, 3), -22), ("add_bin", (10, 300, MOST, 3), -22),
        ("add_bin", (10, 300, 5, LEAST), -22), ("add_bin", (10, 300, 5, 3), -28),
        ("add_flour", (4, 1), -2), ("add_flour", (-1, 1), -2), ("add_flour", (0, 0), -22), ("add_flour", (0, 21), -22),
        ("add_flour", (1, -8), -22), ("add_flour", (3, 1), -22), ("add_flour", (0, LEAST), -22),
        ("set_price", (4, 5), -2), ("set_price", (-1, 5), -2), ("set_price", (0, 0), -22), ("set_price", (0, 100), -22),
        ("empty_bin", (4,), -2), ("empty_bin", (-1,), -2),
        ("set_request", (0, 0, 999, 999), -22), ("set_request", (6, 401, 400, 7), -22),
        ("set_request", (7, 0, 999, 1000), -22), ("set_request", (7, -1, 999, 999), -22),
        ("make_blend", ([3, 3],), -22), ("make_blend", ([3, 3, 0, 31],), -22), ("make_blend", ([],), -22),
        ("make_blend", ([1] * 70,), -22), ("make_blend", ([0, 0, 6, 0],), -6), ("make_blend", ([2, 4, 0, 0],), -33),
        ("make_blend", ([3, 3, 1, 0],), -6), ("make_blend", ([3, 2, 0, 0],), -33),
    ]


CALLS = {"add_bin": add_bin, "add_flour": add_flour, "set_price": set_price, "empty_bin": empty_bin,
         "set_request": set_request, "make_blend": make_blend}


class Promise4(unittest.TestCase):
    """Wider bounds never raise the cost of the cheapest blend."""

    def test_wider_bounds(self):
        chance = random.Random(4)
        compared = 0
        for _ in range(400):
            bins, request = random_shop(chance)
            n, min_strength, max_strength, max_ash = request
            wider = (n, max(0, min_strength - chance.choice([0, 1, 50])),
                     min(999, max_strength + chance.choice([0, 1, 50])), min(999, max_ash + chance.choice([0, 1, 3])))
            narrow, wide = ask(*shop(bins, request), cheapest_blend(), set_request(*wider), cheapest_blend())[-3::2]
            if narrow != [-33]:
                compared += 1
                with self.subTest(bins=bins, request=request, wider=wider):
                    self.assertNotEqual(wide, [-33])
                    self.assertLessEqual(wide[0], narrow[0])
        self.assertGreater(compared, 100)

    def test_one_bound_after_another(self):
        found = ask(*shop(BINS), set_request(6, 300, 300, 5), cheapest_blend(), set_request(6, 280, 300, 5),
                    cheapest_blend(), set_request(6, 280, 300, 6), cheapest_blend(), set_request(6, 0, 300, 9),
                    cheapest_blend(), set_request(6, 0, 999, 999), cheapest_blend())
        self.assertEqual(found[4::2], [[18, 6, 0], [18, 6, 0], [16, 5, 1], [6, 0, 6], [6, 0, 6]])


class Promise5(unittest.TestCase):
    """Making a blend removes exactly its kilograms and increases `spent` by its cost."""

    def check(self, before, after, blend, cost):
        bins, request, spent = before
        left = [(one[0] - taken,) + one[1:] for one, taken in zip(bins, blend)]
        self.assertEqual(after, (left, request, spent + cost))
        self.assertEqual(cost, total(bins, blend, 3))

    def test_make_cheapest_blend(self):
        chance = random.Random(5)
        made = 0
        for _ in range(200):
            bakery = bakery_with(*random_shop(chance))
            before = state(bakery)
            found = bakery.make_cheapest_blend()
            while found != [-33]:
                made += 1
                self.check(before, state(bakery), found[1:], found[0])
                before = state(bakery)
                found = bakery.make_cheapest_blend()
            self.assertEqual(state(bakery), before)
        self.assertGreater(made, 100)

    def test_make_blend(self):
        bakery = bakery_with(BINS, REQUEST)
        for blend, cost in (([4, 2], 14), ([3, 3], 12), ([3, 3], 12)):
            before = state(bakery)
            self.assertEqual(bakery.make_blend(blend), [cost])
            self.check(before, state(bakery), blend, cost)
        self.assertEqual(bakery.spent, 38)

    def test_a_changed_price_leaves_spent_as_it_was(self):
        bakery = bakery_with(BINS, REQUEST)
        bakery.make_blend([3, 3])
        bakery.set_price(0, 9)
        self.assertEqual(bakery.spent, 12)
        bakery.make_blend([3, 3])
        self.assertEqual(bakery.spent, 12 + 30)

    def test_only_making_a_blend_spends(self):
        bakery = bakery_with(BINS, REQUEST)
        bakery.add_flour(0, 5)
        bakery.empty_bin(1)
        bakery.cheapest_blend()
        self.assertEqual(bakery.spent, 0)

    def test_the_blend_handed_in_is_not_changed(self):
        blend = [3, 3]
        bakery_with(BINS, REQUEST).make_blend(blend)
        self.assertEqual(blend, [3, 3])


class Promise6(unittest.TestCase):
    """A call that returns an error leaves the instance unchanged, and so does cheapest_blend."""

    def test_the_whole_instance_after_an_error(self):
        for name, arguments, code in refused_calls():
            bakery = bakery_with(FULL_BINS, REQUEST)
            bakery.make_cheapest_blend()
            bakery.add_flour(0, 3)
            bakery.add_flour(1, 3)
            before = state(bakery)
            with self.subTest(name=name, arguments=arguments):
                self.assertEqual(getattr(bakery, name)(*arguments), [code])
                self.assertEqual(state(bakery), before)

    def test_the_later_answers_after_an_error(self):
        ahead = shop(FULL_BINS, REQUEST)
        wanted = ask(*ahead, *probe())[len(ahead):]
        for name, arguments, code in refused_calls():
            with self.subTest(name=name, arguments=arguments):
                found = ask(*ahead, CALLS[name](*arguments), *probe())[len(ahead):]
                self.assertEqual(found, [[code]] + wanted)

    def test_where_no_blend_is_valid(self):
        for name in ("cheapest_blend", "make_cheapest_blend"):
            for bins in ([], BINS, FULL_BINS):
                bakery = bakery_with(bins, (6, 301, 302, 7))
                before = state(bakery)
                with self.subTest(name=name, bins=bins):
                    self.assertEqual(getattr(bakery, name)(), [-33])
                    self.assertEqual(state(bakery), before)

    def test_cheapest_blend_changes_nothing(self):
        bakery = bakery_with(FULL_BINS, REQUEST)
        before = state(bakery)
        self.assertEqual([bakery.cheapest_blend() for _ in range(3)], [[12, 3, 3, 0, 0]] * 3)
        self.assertEqual(state(bakery), before)

    def test_the_later_answers_after_cheapest_blend(self):
        ahead = shop(FULL_BINS, REQUEST)
        wanted = ask(*ahead, *probe())[len(ahead):]
        found = ask(*ahead, cheapest_blend(), cheapest_blend(), *probe())[len(ahead):]
        self.assertEqual(found, wanted[:1] * 2 + wanted)

    def test_an_error_at_the_start_is_forgotten_by_the_end(self):
        self.assertEqual(last(*shop(BINS, REQUEST), make_blend([9, 9]), make_cheapest_blend()), [12, 3, 3])


if __name__ == "__main__":
    unittest.main()
