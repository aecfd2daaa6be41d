"""Operation 8: make_blend."""

import unittest

from tests.helper import LEAST, MOST, ask, cheapest_blend, create, empty_bin, last, make_blend, set_request, shop

BINS = [(10, 300, 5, 3), (8, 200, 9, 1)]
REQUEST = (6, 250, 400, 7)


class MakeBlend(unittest.TestCase):
    def check(self, blend, answer, bins=BINS, request=REQUEST):
        with self.subTest(blend=blend, bins=bins, request=request):
            self.assertEqual(last(*shop(bins, request), make_blend(blend)), answer)

    def test_the_cost_of_a_valid_blend(self):
        for blend, cost in (([3, 3], 12), ([4, 2], 14), ([5, 1], 16), ([6, 0], 18)):
            self.check(blend, [cost])

    def test_it_need_not_be_the_cheapest(self):
        self.assertEqual(ask(*shop(BINS, REQUEST), cheapest_blend(), make_blend([6, 0]))[4:], [[12, 3, 3], [18]])

    def test_the_flour_is_taken_out(self):
        self.assertEqual(ask(*shop(BINS, REQUEST), make_blend([4, 2]), empty_bin(0), empty_bin(1))[4:],
                         [[14], [6], [6]])

    def test_the_bounds_themselves_are_valid(self):
        self.check([2, 2], [8], request=(4, 250, 250, 7))
        self.check([2, 2], [-33], request=(4, 251, 999, 999))
        self.check([2, 2], [-33], request=(4, 0, 249, 999))
        self.check([2, 2], [-33], request=(4, 0, 999, 6))

    def test_another_weight_is_not_valid(self):
        for blend in ([3, 2], [4, 3], [0, 0], [10, 8]):
            self.check(blend, [-33], request=(6, 0, 999, 999))

    def test_not_valid(self):
        self.check([2, 4], [-33])
        self.check([0, 6], [-33])

    def test_not_enough_flour(self):
        self.check([10, 0], [30], request=(10, 0, 999, 999))
        self.check([11, 0], [-6], request=(11, 0, 999, 999))
        self.check([0, 8], [8], request=(8, 0, 999, 999))
        self.check([0, 9], [-6], request=(9, 0, 999, 999))
        self.check([30, 30], [-6])
        self.check([1, 0], [-6], bins=[(0, 1, 0, 1), (30, 1, 0, 1)], request=(1, 0, 999, 999))

    def test_less_flour_after_each_blend(self):
        self.assertEqual(ask(*shop(BINS, REQUEST), make_blend([6, 0]), make_blend([5, 1]), make_blend([4, 2]),
                             make_blend([4, 2]))[4:], [[18], [-6], [14], [-6]])

    def test_lists_of_another_length(self):
        for length in (0, 1, 3, 4, 5, 69, 70):
            self.check([3] * length, [-22])
            self.check([0] * length, [-22])
        self.check([3, 3, 0], [-22])

    def test_lists_of_the_right_length(self):
        for count in range(1, 5):
            bins = [(10, 300, 5, 3)] * count
            self.check([1] + [0] * (count - 1), [3], bins=bins, request=(1, 0, 999, 999))
            self.check([1] + [0] * count, [-22], bins=bins, request=(1, 0, 999, 999))
            self.check([1] + [0] * (count - 2) if count > 1 else [], [-22], bins=bins, request=(1, 0, 999, 999))
            self.check([0] * 70, [-22], bins=bins, request=(1, 0, 999, 999))

    def test_no_bins(self):
        self.assertEqual(ask(create(), make_blend([]), make_blend([0]), make_blend([1]), make_blend([0] * 70))[1:],
                         [[-33], [-22], [-22], [-22]])

    def test_range_of_the_elements(self):
        for value in (-1, 31, LEAST, LEAST + 1, MOST - 1, MOST):
            self.check([value, 3], [-22])
            self.check([3, value], [-22])
        self.check([30, 0], [-6])
        self.check([0, 30], [-6])
        self.check([0, 30], [90], bins=[(0, 1, 0, 1), (30, 300, 5, 3)], request=(30, 0, 999, 999))

    def test_elements_that_sum_up_to_the_weight_are_checked_all_the_same(self):
        self.check([-1, 7], [-22], request=(6, 0, 999, 999))
        self.check([7, -1], [-22], request=(6, 0, 999, 999))
        self.check([MOST, 7 - MOST], [-22], request=(7, 0, 999, 999))

    def test_the_form_is_checked_first(self):
        self.check([31, 0, 0], [-22])
        self.check([11, 31], [-22])
        self.check([11, -1], [-22])
        self.check([11, 9, 0], [-22])

    def test_the_flour_is_checked_before_the_validity(self):
        self.check([11, 0], [-6])
        self.check([0, 9], [-6])
        self.check([11, 0], [-6], request=(1, 999, 999, 0))

    def test_a_refused_blend_takes_nothing(self):
        for blend, answer in (([3], [-22]), ([3, 31], [-22]), ([3, 9], [-6]), ([11, 3], [-6]), ([2, 4], [-33])):
            with self.subTest(blend=blend):
                self.assertEqual(ask(*shop(BINS, REQUEST), make_blend(blend), empty_bin(0), empty_bin(1))[4:],
                                 [answer, [10], [8]])

    def test_the_row_ends_where_its_length_says(self):
        self.assertEqual(ask(*shop(BINS, REQUEST), make_blend([]), make_blend([3] * 70), make_blend([3, 3]),
                             set_request(1, 0, 999, 999), cheapest_blend())[4:], [[-22], [-22], [12], [0], [1, 0, 1]])


if __name__ == "__main__":
    unittest.main()
