"""Blends: lists with the kilograms taken from each bin."""

from flourblend.codes import NO_BLEND, NO_OBSTACLE, NONE_VALID, TOO_MUCH_ASH, TOO_STRONG, TOO_WEAK


def blends_from(amounts, weight):
    """List the blends of this weight from bins that hold these amounts.

    Of two blends, the one that takes more at the first difference comes first.
    """
    if len(amounts) == 0:
        return [[]] if weight == 0 else []
    others = amounts[1:]
    # What the other bins can't give has to come out of this one.
    least = max(0, weight - sum(others))
    most = min(amounts[0], weight)
    blends = []
    for kilograms in range(most, least - 1, -1):
        for rest in blends_from(others, weight - kilograms):
            blends.append([kilograms] + rest)
    return blends


def available_blends(bins, weight):
    """List the available blends of this weight, in the order of blends_from."""
    return blends_from([one.kilograms for one in bins], weight)


def cost_of(bins, blend):
    return sum([one.price * taken for one, taken in zip(bins, blend)])


def strength_sum(bins, blend):
    return sum([one.strength * taken for one, taken in zip(bins, blend)])


def ash_sum(bins, blend):
    return sum([one.ash * taken for one, taken in zip(bins, blend)])


def is_available(bins, blend):
    return all([taken <= one.kilograms for one, taken in zip(bins, blend)])


def keeps_bounds(request, weight, strength, ash):
    """Tell whether a blend of this weight, with these sums of strength and ash, keeps within the bounds."""
    # The sums are compared, not the averages, so that nothing is divided.
    if not request.min_strength * weight <= strength <= request.max_strength * weight:
        return False
    return ash <= request.max_ash * weight


def meets_request(bins, request, blend):
    """Tell whether the weight and the averages of the blend are as requested."""
    if sum(blend) != request.n:
        return False
    return keeps_bounds(request, request.n, strength_sum(bins, blend), ash_sum(bins, blend))


def is_valid(bins, request, blend):
    return is_available(bins, blend) and meets_request(bins, request, blend)


def valid_blends(bins, request):
    """List the valid blends, in the order of blends_from."""
    return [blend for blend in available_blends(bins, request.n) if meets_request(bins, request, blend)]


def find_cheapest(bins, request):
    """Give the cheapest blend, or None if no blend is valid."""
    # Among blends of the same cost min keeps the first one listed, and that is the one to be chosen.
    return min(valid_blends(bins, request), key=lambda blend: cost_of(bins, blend), default=None)


def sums_up_to(bins, most):
    """List the weight, the strength sum and the ash sum of each available blend that weighs at most this."""
    sums = [(0, 0, 0)]
    for one in bins:
        longer = []
        for weight, strength, ash in sums:
            for taken in range(min(one.kilograms, most - weight) + 1):
                longer.append((weight + taken, strength + one.strength * taken, ash + one.ash * taken))
        sums = longer
    return sums


def greatest_weight(bins, request, most):
    """Give the greatest weight, up to this one, of an available blend within the bounds, whatever n is."""
    # Every weight is tried, and to list and judge the blends of each would take long: the sums are enough.
    listed = sums_up_to(bins, most)
    return max([weight for weight, strength, ash in listed if keeps_bounds(request, weight, strength, ash)])


def find_obstacle(bins, request):
    n = request.n
    listed = available_blends(bins, n)
    if len(listed) == 0:
        return NO_BLEND
    strengths = [strength_sum(bins, blend) for blend in listed]
    if max(strengths) < request.min_strength * n:
        return TOO_WEAK
    if min(strengths) > request.max_strength * n:
        return TOO_STRONG
    if min([ash_sum(bins, blend) for blend in listed]) > request.max_ash * n:
        return TOO_MUCH_ASH
    if not any([meets_request(bins, request, blend) for blend in listed]):
        return NONE_VALID
    return NO_OBSTACLE
