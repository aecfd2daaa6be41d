"""Operation 5: set_request."""

import unittest

from tests.helper import FAR_OUT, LEAST, MOST, ask, cheapest_blend, create, last, set_request, shop


class SetRequest(unittest.TestCase):
    def check(self, request, answer):
        with self.subTest(request=request):
            self.assertEqual(last(create(), set_request(*request)), answer)

    def test_range_of_n(self):
        for n in (1, 2, 29, 30):
            self.check((n, 0, 999, 999), [0])
        for n in (0, -1, 31) + FAR_OUT:
            self.check((n, 0, 999, 999), [-22])

    def test_range_of_min_strength(self):
        for min_strength in (0, 1, 399, 400):
            self.check((5, min_strength, 400, 999), [0])
        for min_strength in (-1, 401, 999) + FAR_OUT:
            self.check((5, min_strength, 400, 999), [-22])

    def test_range_of_max_strength(self):
        for max_strength in (250, 251, 998, 999):
            self.check((5, 250, max_strength, 999), [0])
        for max_strength in (-1, 0, 249, 1000) + FAR_OUT:
            self.check((5, 250, max_strength, 999), [-22])

    def test_the_strengths_at_the_ends_of_their_ranges(self):
        self.check((5, 0, 0, 999), [0])
        self.check((5, 999, 999, 999), [0])
        for strengths in ((-1, -1), (1000, 1000), (999, 1000), (-1, 0), (1, 0), (999, 998), (LEAST, MOST),
                          (MOST, LEAST), (LEAST, LEAST), (MOST, MOST)):
            self.check((5,) + strengths + (999,), [-22])

    def test_range_of_max_ash(self):
        for max_ash in (0, 1, 998, 999):
            self.check((5, 0, 999, max_ash), [0])
        for max_ash in (-1, 1000) + FAR_OUT:
            self.check((5, 0, 999, max_ash), [-22])

    def test_the_request_is_replaced(self):
        bins = [(30, 300, 5, 3), (30, 200, 9, 1)]
        found = ask(*shop(bins), set_request(6, 250, 400, 7), cheapest_blend(), set_request(4, 0, 999, 999),
                    cheapest_blend(), set_request(2, 300, 300, 5), cheapest_blend(), set_request(2, 301, 400, 5),
                    cheapest_blend())
        self.assertEqual(found[3:], [[0], [12, 3, 3], [0], [4, 0, 4], [0], [6, 2, 0], [0], [-33]])

    def test_a_refused_request_replaces_nothing(self):
        bins = [(30, 300, 5, 3), (30, 200, 9, 1)]
        for wrong in ((31, 0, 999, 999), (4, 10, 9, 999), (4, 0, 1000, 999), (4, 0, 999, 1000), (4, -1, 999, 999)):
            with self.subTest(wrong=wrong):
                self.assertEqual(ask(*shop(bins, (6, 250, 400, 7)), set_request(*wrong), cheapest_blend())[4:],
                                 [[-22], [12, 3, 3]])

    def test_the_bins_are_kept(self):
        self.assertEqual(ask(*shop([(2, 300, 5, 3)]), set_request(2, 0, 999, 999), cheapest_blend(),
                             set_request(3, 0, 999, 999), cheapest_blend())[2:], [[0], [6, 2], [0], [-33]])


if __name__ == "__main__":
    unittest.main()
