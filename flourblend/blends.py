"""Blends: lists with the kilograms taken from each bin."""


def available_blends(amounts, weight):
    """List the blends of this weight from bins that hold these amounts.

    Of two blends, the one that takes more at the first difference comes first.
    """
    if len(amounts) == 0:
        return [[]] if weight == 0 else []
    others = amounts[1:]
    # What the other bins can't give has to come out of this one.
    least = max(0, weight - sum(others))
    most = min(amounts[0], weight)
    blends = []
    for kilograms in range(most, least - 1, -1):
        for rest in available_blends(others, weight - kilograms):
            blends.append([kilograms] + rest)
    return blends


def cost_of(bins, blend):
    return sum([one.price * taken for one, taken in zip(bins, blend)])


def strength_sum(bins, blend):
    return sum([one.strength * taken for one, taken in zip(bins, blend)])


def ash_sum(bins, blend):
    return sum([one.ash * taken for one, taken in zip(bins, blend)])


def is_available(bins, blend):
    return all([taken <= one.kilograms for one, taken in zip(bins, blend)])


def meets_request(bins, request, blend):
    """Tell whether the weight and the averages of the blend are as requested."""
    n = request.n
    if sum(blend) != n:
        return False
    # The sums are compared, not the averages, so that nothing is divided.
    if not request.min_strength * n <= strength_sum(bins, blend) <= request.max_strength * n:
        return False
    return ash_sum(bins, blend) <= request.max_ash * n


def is_valid(bins, request, blend):
    return is_available(bins, blend) and meets_request(bins, request, blend)


def valid_blends(bins, request):
    """List the valid blends, in the order of available_blends."""
    amounts = [one.kilograms for one in bins]
    return [blend for blend in available_blends(amounts, request.n) if meets_request(bins, request, blend)]


def find_cheapest(bins, request):
    """Give the cheapest blend, or None if no blend is valid."""
    # Among blends of the same cost min keeps the first one listed, and that is the one to be chosen.
    return min(valid_blends(bins, request), key=lambda blend: cost_of(bins, blend), default=None)
