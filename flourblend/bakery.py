"""The instance: its bins, its request, what was spent, and its operations.

Each operation answers a list of whole numbers; an error is a list with its code alone.
"""

from flourblend.averages import average
from flourblend.blends import (ash_sum, available_blends, cost_of, find_cheapest, find_obstacle, greatest_weight,
                               is_available, is_valid, strength_sum, valid_blends)
from flourblend.codes import NO_SUCH_BIN, NOT_VALID, OUT_OF_RANGE, TOO_LITTLE_FLOUR, TOO_MANY_BINS

MOST_KILOGRAMS = 30
MOST_STRENGTH = 999
MOST_ASH = 999
MOST_PRICE = 99
MOST_BINS = 4


def is_price(price):
    return 1 <= price <= MOST_PRICE


def is_amount(kilograms):
    return 0 <= kilograms <= MOST_KILOGRAMS


def is_ash(ash):
    return 0 <= ash <= MOST_ASH


def is_weight(n):
    return 1 <= n <= MOST_KILOGRAMS


class Bin:
    def __init__(self, kilograms, strength, ash, price):
        self.kilograms = kilograms
        self.strength = strength
        self.ash = ash
        self.price = price


class Request:
    def __init__(self, n, min_strength, max_strength, max_ash):
        self.n = n
        self.min_strength = min_strength
        self.max_strength = max_strength
        self.max_ash = max_ash


class Bakery:
    def __init__(self):
        self.bins = []
        self.request = Request(1, 0, MOST_STRENGTH, MOST_ASH)
        self.spent = 0

    def add_bin(self, kilograms, strength, ash, price):
        if not (is_amount(kilograms) and 1 <= strength <= MOST_STRENGTH and is_ash(ash) and is_price(price)):
            return [OUT_OF_RANGE]
        if len(self.bins) == MOST_BINS:
            return [TOO_MANY_BINS]
        self.bins.append(Bin(kilograms, strength, ash, price))
        return [len(self.bins) - 1]

    def add_flour(self, i, kilograms):
        if not self.has_bin(i):
            return [NO_SUCH_BIN]
        total = self.bins[i].kilograms + kilograms
        if kilograms < 1 or total > MOST_KILOGRAMS:
            return [OUT_OF_RANGE]
        self.bins[i].kilograms = total
        return [total]

    def set_price(self, i, price):
        if not self.has_bin(i):
            return [NO_SUCH_BIN]
        if not is_price(price):
            return [OUT_OF_RANGE]
        old_price = self.bins[i].price
        self.bins[i].price = price
        return [old_price]

    def empty_bin(self, i):
        if not self.has_bin(i):
            return [NO_SUCH_BIN]
        removed = self.bins[i].kilograms
        self.bins[i].kilograms = 0
        return [removed]

    def set_request(self, n, min_strength, max_strength, max_ash):
        if not is_weight(n):
            return [OUT_OF_RANGE]
        if not (0 <= min_strength <= max_strength <= MOST_STRENGTH and is_ash(max_ash)):
            return [OUT_OF_RANGE]
        self.request = Request(n, min_strength, max_strength, max_ash)
        return [0]

    def cheapest_blend(self):
        return self.cheapest_from(self.bins)

    def make_cheapest_blend(self):
        blend = find_cheapest(self.bins, self.request)
        if blend is None:
            return [NOT_VALID]
        return [self.take_out(blend)] + blend

    def make_blend(self, blend):
        if not self.has_form(blend):
            return [OUT_OF_RANGE]
        if not is_available(self.bins, blend):
            return [TOO_LITTLE_FLOUR]
        if not is_valid(self.bins, self.request, blend):
            return [NOT_VALID]
        return [self.take_out(blend)]

    def check_blend(self, blend):
        if not self.has_form(blend):
            return [OUT_OF_RANGE]
        bins = self.bins
        valid = 1 if is_valid(bins, self.request, blend) else 0
        weight = sum(blend)
        strength = average(strength_sum(bins, blend), weight)
        ash = average(ash_sum(bins, blend), weight)
        return [valid, weight] + strength + ash + [cost_of(bins, blend)]

    def count_blends(self):
        available = available_blends(self.bins, self.request.n)
        return [len(available), len(valid_blends(self.bins, self.request))]

    def greatest_amount(self):
        return [greatest_weight(self.bins, self.request, MOST_KILOGRAMS)]

    def extreme_averages(self, n):
        if not is_weight(n):
            return [OUT_OF_RANGE]
        listed = available_blends(self.bins, n)
        if len(listed) == 0:
            return [NOT_VALID]
        strengths = [strength_sum(self.bins, blend) for blend in listed]
        ashes = [ash_sum(self.bins, blend) for blend in listed]
        return [0] + average(min(strengths), n) + average(max(strengths), n) + average(min(ashes), n)

    def obstacle(self):
        return [find_obstacle(self.bins, self.request)]

    def cheapest_if_price(self, i, price):
        if not self.has_bin(i):
            return [NO_SUCH_BIN]
        if not is_price(price):
            return [OUT_OF_RANGE]
        one = self.bins[i]
        return self.cheapest_with(i, Bin(one.kilograms, one.strength, one.ash, price))

    def cheapest_without(self, i):
        if not self.has_bin(i):
            return [NO_SUCH_BIN]
        one = self.bins[i]
        return self.cheapest_with(i, Bin(0, one.strength, one.ash, one.price))

    def describe(self):
        answer = [len(self.bins)]
        for one in self.bins:
            answer.extend([one.kilograms, one.strength, one.ash, one.price])
        request = self.request
        return answer + [request.n, request.min_strength, request.max_strength, request.max_ash, self.spent]

    def cheapest_from(self, bins):
        """Answer the cost and the cheapest blend from these bins, or that no blend is valid."""
        blend = find_cheapest(bins, self.request)
        if blend is None:
            return [NOT_VALID]
        return [cost_of(bins, blend)] + blend

    def cheapest_with(self, i, other):
        """Answer what the cheapest blend would be with another bin in the place of bin i."""
        bins = list(self.bins)
        bins[i] = other
        return self.cheapest_from(bins)

    def has_bin(self, i):
        return 0 <= i < len(self.bins)

    def has_form(self, blend):
        """Tell whether the blend has one element for each bin, and each in its range."""
        return len(blend) == len(self.bins) and all([is_amount(kilograms) for kilograms in blend])

    def take_out(self, blend):
        """Take an available blend out of the bins, and give what it costs."""
        cost = cost_of(self.bins, blend)
        for one, taken in zip(self.bins, blend):
            one.kilograms -= taken
        self.spent += cost
        return cost
