"""Fractions: pairs of an upper and a lower number, the lower 1 or more, with nothing in common."""


def common_divisor(first, second):
    """The greatest number that divides both, which are 0 or more and not both 0."""
    while second != 0:
        rest = first % second
        first = second
        second = rest
    return first


def lowest(upper, lower):
    """The fraction of two numbers, the lower 1 or more."""
    shared = common_divisor(abs(upper), lower)
    return (upper // shared, lower // shared)


def is_less(first, second):
    return first[0] * second[1] < second[0] * first[1]


def difference(first, second):
    return lowest(first[0] * second[1] - second[0] * first[1], first[1] * second[1])
