"""Operation 12: extreme_averages, and promise 3."""

import random
import unittest

from tests.helper import (FAR_OUT, add_flour, ask, available_by_force, average, create, empty_bin, extreme_averages,
                          extremes_by_force, last, make_blend, pair, random_shop, set_request, shop)

BINS = [(10, 300, 5, 3), (8, 200, 9, 1)]


def from_the_strongest(bins, n):
    """A blend for which a bin gives flour only when all the stronger ones are empty."""
    blend = [0] * len(bins)
    for i in sorted(range(len(bins)), key=lambda i: -bins[i][1]):
        blend[i] = min(bins[i][0], n - sum(blend))
    return blend


class ExtremeAverages(unittest.TestCase):
    def check(self, bins, n, answer):
        with self.subTest(bins=bins, n=n):
            self.assertEqual(last(*shop(bins), extreme_averages(n)), answer)

    def test_the_weakest_the_strongest_and_the_least_ash(self):
        self.check(BINS, 12, [0, 700, 3, 850, 3, 17, 3])
        self.check(BINS, 6, [0, 200, 1, 300, 1, 5, 1])
        self.check(BINS, 10, [0, 220, 1, 300, 1, 5, 1])
        self.check(BINS, 11, [0, 2500, 11, 3200, 11, 59, 11])

    def test_all_the_flour_there_is(self):
        self.check(BINS, 18, [0, 2300, 9, 2300, 9, 61, 9])

    def test_the_least_ash_need_not_come_from_the_strongest_or_the_weakest(self):
        bins = [(5, 300, 9, 1), (5, 200, 1, 1), (5, 100, 5, 1)]
        self.check(bins, 5, [0, 100, 1, 300, 1, 1, 1])
        self.check(bins, 6, [0, 350, 3, 850, 3, 5, 3])
        self.check(bins, 12, [0, 175, 1, 225, 1, 4, 1])

    def test_no_ash(self):
        self.check([(5, 300, 0, 1), (5, 200, 1, 1)], 5, [0, 200, 1, 300, 1, 0, 1])
        self.check([(5, 300, 0, 1), (5, 200, 1, 1)], 6, [0, 650, 3, 850, 3, 1, 6])

    def test_the_greatest_and_the_least_of_everything(self):
        self.check([(30, 999, 999, 99)] * 4, 30, [0, 999, 1, 999, 1, 999, 1])
        self.check([(30, 1, 0, 1)] * 4, 30, [0, 1, 1, 1, 1, 0, 1])
        self.check([(30, 1, 0, 1), (29, 999, 999, 1)], 30, [0, 1, 1, 14486, 15, 0, 1])

    def test_bins_of_the_same_strength(self):
        self.check([(3, 300, 9, 1), (3, 300, 1, 1), (3, 300, 5, 1)], 7, [0, 300, 1, 300, 1, 27, 7])

    def test_range_of_n(self):
        full = [(30, 300, 5, 3)]
        for n in (1, 2, 29, 30):
            self.check(full, n, [0, 300, 1, 300, 1, 5, 1])
        for n in (0, -1, -30, 31, 32) + FAR_OUT:
            self.check(full, n, [-22])

    def test_no_blend_of_this_weight(self):
        self.check(BINS, 19, [-33])
        self.check(BINS, 30, [-33])
        self.check([(29, 300, 5, 3)], 30, [-33])

    def test_the_range_is_checked_before_the_blends(self):
        for bins in ([], [(0, 300, 5, 3)] * 4, [(1, 300, 5, 3)], BINS):
            for n in (0, -1, 31) + FAR_OUT:
                self.check(bins, n, [-22])

    def test_no_bin(self):
        self.assertEqual(ask(create(), extreme_averages(1), extreme_averages(30), extreme_averages(0),
                             extreme_averages(31)), [[0], [-33], [-33], [-22], [-22]])

    def test_one_bin(self):
        self.check([(7, 300, 5, 2)], 7, [0, 300, 1, 300, 1, 5, 1])
        self.check([(7, 300, 5, 2)], 1, [0, 300, 1, 300, 1, 5, 1])
        self.check([(7, 300, 5, 2)], 8, [-33])
        self.check([(0, 300, 5, 2)], 1, [-33])

    def test_four_bins(self):
        bins = [(10, 400, 9, 4), (10, 300, 5, 3), (10, 200, 4, 2), (10, 100, 1, 1)]
        self.check(bins, 20, [0, 150, 1, 350, 1, 5, 2])
        self.check(bins, 30, [0, 200, 1, 300, 1, 10, 3])

    def test_empty_bins(self):
        self.check([(0, 999, 0, 1), (4, 300, 5, 1), (0, 1, 0, 1), (4, 200, 7, 1)], 4, [0, 200, 1, 300, 1, 5, 1])
        self.check([(0, 999, 0, 1), (4, 300, 5, 1), (0, 1, 0, 1), (4, 200, 7, 1)], 8, [0, 250, 1, 250, 1, 6, 1])
        self.check([(0, 999, 0, 1), (4, 300, 5, 1), (0, 1, 0, 1), (4, 200, 7, 1)], 9, [-33])
        self.check([(0, 999, 0, 1)] * 4, 1, [-33])

    def test_after_the_flour_has_changed(self):
        self.assertEqual(ask(*shop(BINS, (6, 250, 400, 7)), make_blend([6, 0]), extreme_averages(6), empty_bin(1),
                             extreme_averages(6), add_flour(0, 2), extreme_averages(6))[4:],
                         [[18], [0, 200, 1, 800, 3, 19, 3], [8], [-33], [6], [0, 300, 1, 300, 1, 5, 1]])

    def test_the_request_does_not_matter(self):
        for request in ((1, 0, 999, 999), (30, 0, 999, 999), (12, 0, 0, 0), (12, 999, 999, 0), (6, 301, 302, 4),
                        (6, 250, 260, 7), (19, 0, 999, 999)):
            with self.subTest(request=request):
                self.assertEqual(ask(*shop(BINS, request), extreme_averages(12), extreme_averages(19))[4:],
                                 [[0, 700, 3, 850, 3, 17, 3], [-33]])

    def test_a_new_request_does_not_matter(self):
        self.assertEqual(ask(*shop(BINS), extreme_averages(12), set_request(3, 1, 2, 3), extreme_averages(12))[3::2],
                         [[0, 700, 3, 850, 3, 17, 3]] * 2)

    def test_the_request_keeps_its_own_weight(self):
        self.assertEqual(ask(*shop(BINS, (6, 250, 400, 7)), extreme_averages(12), [6])[4:],
                         [[0, 700, 3, 850, 3, 17, 3], [12, 3, 3]])

    def test_against_brute_force(self):
        chance = random.Random(13)
        found = {True: 0, False: 0}
        for _ in range(300):
            bins, request = random_shop(chance)
            n = chance.randint(1, max(1, min(30, sum(one[0] for one in bins) + 2)))
            answer = extremes_by_force(bins, n)
            found[answer == [-33]] += 1
            with self.subTest(bins=bins, request=request, n=n):
                self.assertEqual(last(*shop(bins, request), extreme_averages(n)), answer)
        self.assertGreater(min(found.values()), 30)


class Promise3(unittest.TestCase):
    """The strongest blend takes from a bin only if it takes all from every stronger one."""

    def test_the_greatest_average_is_that_of_the_strongest_bins(self):
        chance = random.Random(3)
        compared = 0
        for _ in range(400):
            bins = [(chance.randint(0, 30), chance.randint(1, 999), 0, 1) for _ in range(chance.randint(1, 4))]
            n = chance.randint(1, 30)
            if sum(one[0] for one in bins) < n:
                continue
            compared += 1
            with self.subTest(bins=bins, n=n):
                strongest = average(bins, from_the_strongest(bins, n), 1)
                self.assertEqual(last(*shop(bins), extreme_averages(n))[3:5], pair(strongest))
        self.assertGreater(compared, 200)

    def test_each_blend_of_the_greatest_average(self):
        chance = random.Random(33)
        seen = 0
        for _ in range(200):
            bins, (n, _, _, _) = random_shop(chance)
            answer = last(*shop(bins), extreme_averages(n))
            for blend in available_by_force(bins, n):
                if pair(average(bins, blend, 1)) == answer[3:5]:
                    seen += 1
                    with self.subTest(bins=bins, blend=blend):
                        self.assertTrue(takes_the_strongest_first(bins, blend))
        self.assertGreater(seen, 200)


def takes_the_strongest_first(bins, blend):
    for one, taken in zip(bins, blend):
        if taken > 0 and any(other[1] > one[1] and more < other[0] for other, more in zip(bins, blend)):
            return False
    return True


if __name__ == "__main__":
    unittest.main()
