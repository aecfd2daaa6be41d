"""Operation 0, and what every other call answers while there is no instance."""

import unittest

from tests.helper import (LEAST, MOST, add_bin, add_flour, ask, cheapest_blend, cheapest_if_price, cheapest_without,
                          check_blend, count_blends, create, describe, empty_bin, extreme_averages, greatest_amount,
                          last, make_blend, make_cheapest_blend, obstacle, set_price, set_request, shop)


def every_other_call():
    """Calls 1 to 16 with arguments that are right, and with some that are wrong: -11 is checked first."""
    return [
        add_bin(10, 300, 5, 3), add_bin(LEAST, 0, MOST, 0),
        add_flour(0, 1), add_flour(-1, MOST),
        set_price(0, 1), set_price(4, 0),
        empty_bin(0), empty_bin(LEAST),
        set_request(1, 0, 999, 999), set_request(0, 2, 1, -1),
        cheapest_blend(), make_cheapest_blend(),
        make_blend([]), make_blend([1]), make_blend([LEAST, MOST]), make_blend([1] * 70),
        check_blend([]), check_blend([3, 3]), check_blend([LEAST, MOST]), check_blend([1] * 70),
        count_blends(), greatest_amount(),
        extreme_averages(5), extreme_averages(0), extreme_averages(MOST),
        obstacle(),
        cheapest_if_price(0, 5), cheapest_if_price(-1, 5), cheapest_if_price(0, 100), cheapest_if_price(LEAST, MOST),
        cheapest_without(0), cheapest_without(4), cheapest_without(MOST),
        describe(),
    ]


class Create(unittest.TestCase):
    def test_create_answers_zero(self):
        self.assertEqual(ask(create()), [[0]])

    def test_no_instance_before_create(self):
        for call in every_other_call():
            with self.subTest(call=call):
                self.assertEqual(ask(call), [[-11]])

    def test_no_instance_as_often_as_asked(self):
        calls = every_other_call()
        self.assertEqual(ask(*calls), [[-11]] * len(calls))

    def test_calls_before_create_leave_nothing_behind(self):
        self.assertEqual(ask(add_bin(10, 300, 5, 3), create(), empty_bin(0), add_bin(10, 300, 5, 3)),
                         [[-11], [0], [-2], [0]])

    def test_nothing_answers_no_instance_after_create(self):
        for call in every_other_call():
            with self.subTest(call=call):
                self.assertNotEqual(last(create(), call), [-11])

    def test_a_new_instance_has_no_bins(self):
        self.assertEqual(ask(create(), empty_bin(0), cheapest_blend(), add_bin(1, 1, 0, 1)), [[0], [-2], [-33], [0]])

    def test_the_first_request_is_one_kilogram_within_the_widest_bounds(self):
        for one in ((30, 1, 0, 2), (30, 999, 999, 2), (30, 1, 999, 2), (30, 999, 0, 2)):
            with self.subTest(one=one):
                self.assertEqual(last(*shop([one]), cheapest_blend()), [2, 1])

    def test_every_call_there_is(self):
        self.assertEqual({call[0] for call in every_other_call()}, set(range(1, 17)))

    def test_the_queries_on_a_new_instance(self):
        self.assertEqual(ask(create(), check_blend([]), count_blends(), greatest_amount(), extreme_averages(1),
                             obstacle(), cheapest_if_price(0, 5), cheapest_without(0), describe()),
                         [[0], [0, 0, 0, 1, 0, 1, 0], [0, 0], [0], [-33], [1], [-2], [-2], [0, 1, 0, 999, 999, 0]])

    def test_a_second_create_replaces_the_instance(self):
        found = ask(*shop([(10, 300, 5, 3), (8, 200, 9, 1)], (6, 250, 400, 7)), make_cheapest_blend(),
                    create(), empty_bin(0), cheapest_blend(), add_bin(4, 100, 999, 9), cheapest_blend())
        self.assertEqual(found[4:], [[12, 3, 3], [0], [-2], [-33], [0], [9, 1]])

    def test_a_second_create_makes_room_for_four_bins(self):
        calls = shop([(1, 1, 1, 1)] * 4) + [add_bin(1, 1, 1, 1)]
        self.assertEqual(ask(*calls, *calls), [[0], [0], [1], [2], [3], [-28]] * 2)


if __name__ == "__main__":
    unittest.main()
