"""Squares of distances, as fractions (above, below): a root would have to be rounded."""


def is_less(one, other):
    """Whether a fraction is less than another."""
    return one[0] * other[1] < other[0] * one[1]


def common_divisor(one, other):
    """The greatest number that divides both; other is not 0."""
    while one != 0:
        rest = other % one
        other = one
        one = rest
    return other


def lowest_terms(fraction):
    """The fraction as [above, below] in lowest terms; 0 as [0, 1]."""
    divisor = common_divisor(fraction[0], fraction[1])
    return [fraction[0] // divisor, fraction[1] // divisor]
