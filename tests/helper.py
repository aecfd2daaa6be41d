"""What the tests share: the calls by their names, their answers apart, and a search by brute force."""

import fractions
import itertools

from flourblend.bins import answers

LEAST = -2147483648
MOST = 2147483647
FAR_OUT = (LEAST, LEAST + 1, MOST - 1, MOST)
# Indexes that are wrong where there are two bins.
NO_BIN_OF_TWO = (-1, -2, 2, 3, 4) + FAR_OUT


def create():
    return [0]


def add_bin(kilograms, strength, ash, price):
    return [1, kilograms, strength, ash, price]


def add_flour(i, kilograms):
    return [2, i, kilograms]


def set_price(i, price):
    return [3, i, price]


def empty_bin(i):
    return [4, i]


def set_request(n, min_strength, max_strength, max_ash):
    return [5, n, min_strength, max_strength, max_ash]


def cheapest_blend():
    return [6]


def make_cheapest_blend():
    return [7]


def make_blend(blend):
    return [8, len(blend)] + blend


def check_blend(blend):
    return [9, len(blend)] + blend


def count_blends():
    return [10]


def greatest_amount():
    return [11]


def extreme_averages(n):
    return [12, n]


def obstacle():
    return [13]


def cheapest_if_price(i, price):
    return [14, i, price]


def cheapest_without(i):
    return [15, i]


def describe():
    return [16]


def flat(calls):
    return [number for call in calls for number in call]


def apart(told):
    """Cut what `answers` gave back into one list for each call."""
    found = []
    at = 0
    while at < len(told):
        found.append(told[at + 1:at + 1 + told[at]])
        at += 1 + told[at]
    return found


def ask(*calls):
    """Make the calls on a new object and give their answers, one list for each."""
    found = apart(answers(flat(calls)))
    assert len(found) == len(calls), "as many answers as calls"
    return found


def last(*calls):
    return ask(*calls)[-1]


def shop(bins, request=None):
    """The calls that make an instance with these bins, each (kilograms, strength, ash, price), and this request."""
    calls = [create()] + [add_bin(*one) for one in bins]
    return calls if request is None else calls + [set_request(*request)]


def total(bins, blend, place):
    return sum(one[place] * taken for one, taken in zip(bins, blend))


def keeps_bounds(bins, request, blend):
    """Whether a blend, of whatever weight, keeps within the bounds of the request."""
    _, min_strength, max_strength, max_ash = request
    weight = sum(blend)
    return (min_strength * weight <= total(bins, blend, 1) <= max_strength * weight
            and total(bins, blend, 2) <= max_ash * weight)


def is_valid(bins, request, blend):
    return (all(0 <= taken <= one[0] for one, taken in zip(bins, blend)) and sum(blend) == request[0]
            and keeps_bounds(bins, request, blend))


def blends_by_force(bins):
    """Every available blend of every weight."""
    return [list(blend) for blend in itertools.product(*[range(one[0] + 1) for one in bins])]


def available_by_force(bins, n):
    return [blend for blend in blends_by_force(bins) if sum(blend) == n]


def valid_by_force(bins, request):
    return [blend for blend in blends_by_force(bins) if is_valid(bins, request, blend)]


def cheapest_by_force(bins, request):
    """What cheapest_blend is to answer, found by trying every list of kilograms."""
    valid = valid_by_force(bins, request)
    if not valid:
        return [-33]
    ranked = sorted(valid, key=lambda blend: (total(bins, blend, 3), [-taken for taken in blend]))
    return [total(bins, ranked[0], 3)] + ranked[0]


def average(bins, blend, place):
    """The average at this place of the bins, as an exact fraction."""
    return fractions.Fraction(total(bins, blend, place), max(1, sum(blend)))


def pair(fraction):
    return [fraction.numerator, fraction.denominator]


def extremes_by_force(bins, n):
    """What extreme_averages is to answer."""
    blends = available_by_force(bins, n)
    if not blends:
        return [-33]
    strengths = [average(bins, blend, 1) for blend in blends]
    least_ash = min(average(bins, blend, 2) for blend in blends)
    return [0] + pair(min(strengths)) + pair(max(strengths)) + pair(least_ash)


def obstacle_by_force(bins, request):
    """The document's table of obstacles, row by row."""
    n, min_strength, max_strength, max_ash = request
    blends = available_by_force(bins, n)
    if not blends:
        return 1
    if not [blend for blend in blends if average(bins, blend, 1) >= min_strength]:
        return 2
    if not [blend for blend in blends if average(bins, blend, 1) <= max_strength]:
        return 3
    if not [blend for blend in blends if average(bins, blend, 2) <= max_ash]:
        return 4
    return 0 if valid_by_force(bins, request) else 5


def greatest_by_force(bins, request):
    """What greatest_amount is to answer."""
    return max(sum(blend) for blend in blends_by_force(bins)
               if sum(blend) <= 30 and keeps_bounds(bins, request, blend))


def random_shop(chance):
    """Some bins and a request: small enough for brute force, and with prices that make many blends cost the same."""
    bins = [(chance.choice([0, 2, 4, 6, 8]), chance.choice([1, 200, 300, 300, 999]),
             chance.choice([0, 5, 9, 999]), chance.choice([1, 2, 3, 99])) for _ in range(chance.randint(0, 4))]
    lower = chance.choice([0, 0, 150, 250])
    return bins, (chance.randint(1, 10), lower, chance.choice([300, 500, 999, 999]), chance.choice([5, 9, 500, 999]))
