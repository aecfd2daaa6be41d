"""What the tests share: the calls by their names, their answers apart, and a search by brute force."""

import itertools

from flourblend.bins import answers

LEAST = -2147483648
MOST = 2147483647


def create():
    return [0]


def add_bin(kilograms, strength, ash, price):
    return [1, kilograms, strength, ash, price]


def add_flour(i, kilograms):
    return [2, i, kilograms]


def set_price(i, price):
    return [3, i, price]


def empty_bin(i):
    return [4, i]


def set_request(n, min_strength, max_strength, max_ash):
    return [5, n, min_strength, max_strength, max_ash]


def cheapest_blend():
    return [6]


def make_cheapest_blend():
    return [7]


def make_blend(blend):
    return [8, len(blend)] + blend


def flat(calls):
    return [number for call in calls for number in call]


def apart(told):
    """Cut what `answers` gave back into one list for each call."""
    found = []
    at = 0
    while at < len(told):
        found.append(told[at + 1:at + 1 + told[at]])
        at += 1 + told[at]
    return found


def ask(*calls):
    """Make the calls on a new object and give their answers, one list for each."""
    found = apart(answers(flat(calls)))
    assert len(found) == len(calls), "as many answers as calls"
    return found


def last(*calls):
    return ask(*calls)[-1]


def shop(bins, request=None):
    """The calls that make an instance with these bins, each (kilograms, strength, ash, price), and this request."""
    calls = [create()] + [add_bin(*one) for one in bins]
    return calls if request is None else calls + [set_request(*request)]


def probe():
    """Calls whose answers show the prices, the amounts and how many bins there are, and what the request allows."""
    calls = [cheapest_blend(), make_cheapest_blend()]
    for i in range(4):
        calls += [set_price(i, 7), empty_bin(i)]
    return calls + [add_bin(30, 500, 5, 3) for _ in range(5)] + [cheapest_blend()]


def total(bins, blend, place):
    return sum(one[place] * taken for one, taken in zip(bins, blend))


def is_valid(bins, request, blend):
    n, min_strength, max_strength, max_ash = request
    return (all(0 <= taken <= one[0] for one, taken in zip(bins, blend)) and sum(blend) == n
            and min_strength * n <= total(bins, blend, 1) <= max_strength * n
            and total(bins, blend, 2) <= max_ash * n)


def cheapest_by_force(bins, request):
    """What cheapest_blend is to answer, found by trying every list of kilograms."""
    tried = itertools.product(*[range(one[0] + 1) for one in bins])
    valid = [list(blend) for blend in tried if is_valid(bins, request, blend)]
    if not valid:
        return [-33]
    ranked = sorted(valid, key=lambda blend: (total(bins, blend, 3), [-taken for taken in blend]))
    return [total(bins, ranked[0], 3)] + ranked[0]


def random_shop(chance):
    """Some bins and a request: small enough for brute force, and with prices that make many blends cost the same."""
    bins = [(chance.choice([0, 2, 4, 6, 8]), chance.choice([1, 200, 300, 300, 999]),
             chance.choice([0, 5, 9, 999]), chance.choice([1, 2, 3, 99])) for _ in range(chance.randint(0, 4))]
    lower = chance.choice([0, 0, 150, 250])
    return bins, (chance.randint(1, 10), lower, chance.choice([300, 500, 999, 999]), chance.choice([5, 9, 500, 999]))
