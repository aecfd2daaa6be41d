"""Averages, as fractions in lowest terms."""


def greatest_divisor(first, second):
    """Give the greatest whole number that divides both; the first must be above 0."""
    while second != 0:
        rest = first % second
        first = second
        second = rest
    return first


def average(total, weight):
    """List the numerator and the denominator of total / weight; the average of the weight 0 is 0."""
    if weight == 0:
        return [0, 1]
    divisor = greatest_divisor(weight, total)
    return [total // divisor, weight // divisor]
