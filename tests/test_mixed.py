"""Lists of sixty calls of every kind, against an instance that is kept here and searched by brute force."""

import random
import unittest

from flourblend.bins import answers
from tests.helper import (LEAST, MOST, apart, average, available_by_force, cheapest_by_force, extremes_by_force, flat,
                          greatest_by_force, is_valid, obstacle_by_force, pair, total, valid_by_force)

FIRST_REQUEST = (1, 0, 999, 999)


def malformed(bins, blend):
    return len(blend) != len(bins) or any(taken not in range(31) for taken in blend)


class Kept:
    """What an instance is to answer, call by call."""

    def __init__(self):
        self.bins = []
        self.request = FIRST_REQUEST
        self.spent = 0

    def answer(self, call):
        arguments = [call[2:]] if call[0] in (8, 9) else call[1:]
        return getattr(self, f"call_{call[0]}")(*arguments)

    def put(self, i, place, value):
        self.bins[i] = self.bins[i][:place] + (value,) + self.bins[i][place + 1:]

    def missing(self, i):
        return i not in range(len(self.bins))

    def take(self, blend):
        self.spent += total(self.bins, blend, 3)
        for i, taken in enumerate(blend):
            self.put(i, 0, self.bins[i][0] - taken)

    def call_1(self, *one):
        ranges = (range(31), range(1, 1000), range(1000), range(1, 100))
        if not all(value in within for value, within in zip(one, ranges)):
            return [-22]
        if len(self.bins) == 4:
            return [-28]
        self.bins.append(one)
        return [len(self.bins) - 1]

    def call_2(self, i, kilograms):
        if self.missing(i):
            return [-2]
        if kilograms < 1 or self.bins[i][0] + kilograms > 30:
            return [-22]
        self.put(i, 0, self.bins[i][0] + kilograms)
        return [self.bins[i][0]]

    def call_3(self, i, price):
        if self.missing(i):
            return [-2]
        if price not in range(1, 100):
            return [-22]
        old_price = self.bins[i][3]
        self.put(i, 3, price)
        return [old_price]

    def call_4(self, i):
        if self.missing(i):
            return [-2]
        removed = self.bins[i][0]
        self.put(i, 0, 0)
        return [removed]

    def call_5(self, n, min_strength, max_strength, max_ash):
        if n not in range(1, 31) or not 0 <= min_strength <= max_strength <= 999 or max_ash not in range(1000):
            return [-22]
        self.request = (n, min_strength, max_strength, max_ash)
        return [0]

    def call_6(self):
        return cheapest_by_force(self.bins, self.request)

    def call_7(self):
        found = self.call_6()
        if found != [-33]:
            self.take(found[1:])
        return found

    def call_8(self, blend):
        if malformed(self.bins, blend):
            return [-22]
        if any(taken > one[0] for one, taken in zip(self.bins, blend)):
            return [-6]
        if not is_valid(self.bins, self.request, blend):
            return [-33]
        cost = total(self.bins, blend, 3)
        self.take(blend)
        return [cost]

    def call_9(self, blend):
        if malformed(self.bins, blend):
            return [-22]
        averages = pair(average(self.bins, blend, 1)) + pair(average(self.bins, blend, 2))
        valid = 1 if is_valid(self.bins, self.request, blend) else 0
        return [valid, sum(blend)] + averages + [total(self.bins, blend, 3)]

    def call_10(self):
        return [len(available_by_force(self.bins, self.request[0])), len(valid_by_force(self.bins, self.request))]

    def call_11(self):
        return [greatest_by_force(self.bins, self.request)]

    def call_12(self, n):
        return extremes_by_force(self.bins, n) if n in range(1, 31) else [-22]

    def call_13(self):
        return [obstacle_by_force(self.bins, self.request)]

    def supposed(self, call):
        """What cheapest_blend is to answer after this call, which is then taken back."""
        kept = list(self.bins)
        changed = self.answer(call)
        found = self.call_6()
        self.bins = kept
        return changed if changed[0] < 0 else found

    def call_14(self, i, price):
        return self.supposed([3, i, price])

    def call_15(self, i):
        return self.supposed([4, i])

    def call_16(self):
        return [len(self.bins)] + flat(self.bins) + list(self.request) + [self.spent]


def random_number(chance, likely):
    return chance.choice([LEAST, -1, 0, 31, 1000, MOST]) if chance.random() < 0.04 else chance.choice(likely)


def random_call(chance, bins):
    call = chance.choice([1, 1, 2, 2, 3, 4, 5, 5, 5] + list(range(6, 17)))
    if call in (8, 9):
        length = bins if chance.random() < 0.9 else chance.choice([0, 1, 3, 5, 70])
        blend = [random_number(chance, [0, 0, 1, 2, 3]) for _ in range(length)]
        return [call, length] + blend
    index = [0, 1, 2, 3, max(0, bins - 1)]
    likely = {1: ([0, 1, 2, 3, 4], [100, 200, 300], [0, 5, 9], [1, 2, 3, 99]), 2: (index, [1, 2]), 3: (index, [1, 2, 50]),
              4: (index,), 5: ([1, 2, 3, 4], [0, 0, 150, 200], [200, 300, 999], [4, 7, 999]), 12: ([1, 2, 4, 8, 30],),
              14: (index, [1, 2, 99]), 15: (index,)}.get(call, ())
    return [call] + [random_number(chance, values) for values in likely]


def random_calls(chance):
    """Sixty calls: a first one before create, some bins, and then calls of every kind."""
    calls = [random_call(chance, 2), [0]]
    bins = chance.randint(0, 4)
    for _ in range(bins):
        calls.append([1, chance.randint(0, 5), chance.choice([100, 200, 300]), chance.choice([0, 5, 9]),
                      chance.randint(1, 4)])
    while len(calls) < 60:
        calls.append([0] if chance.random() < 0.01 else random_call(chance, bins))
    return calls


def wanted(calls):
    kept = None
    found = []
    for call in calls:
        if call == [0]:
            kept = Kept()
        found.append([0] if call == [0] else [-11] if kept is None else kept.answer(call))
    return found


class Mixed(unittest.TestCase):
    def test_against_what_is_kept_here(self):
        chance = random.Random(60)
        seen = {}
        for _ in range(200):
            calls = random_calls(chance)
            given = flat(calls)
            before = list(given)
            told = answers(given)
            with self.subTest(calls=calls):
                found = apart(told)
                self.assertEqual(found, wanted(calls))
                self.assertEqual(given, before)
                self.assertEqual(answers(given), told)
            for call, answer in zip(calls, found):
                refused = answer[0] if answer[0] < 0 else None
                seen[call[0], refused] = seen.get((call[0], refused), 0) + 1
        self.assertEqual({call for call, refused in seen if refused is None}, set(range(17)))
        for call, codes in {1: (-22, -28), 2: (-2, -22), 3: (-2, -22), 4: (-2,), 5: (-22,), 6: (-33,), 7: (-33,),
                            8: (-22, -6, -33), 9: (-22,), 12: (-22, -33), 14: (-2, -22, -33), 15: (-2, -33)}.items():
            for code in codes:
                self.assertIn((call, code), seen)

    def test_the_queries_may_be_left_out(self):
        chance = random.Random(61)
        for _ in range(60):
            calls = random_calls(chance)
            found = apart(answers(flat(calls)))
            changes = [i for i, call in enumerate(calls) if call[0] in (0, 1, 2, 3, 4, 5, 7, 8) and found[i][0] >= 0]
            with self.subTest(calls=calls):
                self.assertEqual(apart(answers(flat([calls[i] for i in changes]))), [found[i] for i in changes])


if __name__ == "__main__":
    unittest.main()
