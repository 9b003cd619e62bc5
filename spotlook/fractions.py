"""Exact fractions: tuples (top, bottom) in lowest terms, bottom from 1 on."""

from spotlook.errors import NoFraction


def greatest_divisor(one, other):
    """The greatest number that divides two numbers from 0 on, not both 0."""
    while other != 0:
        one, other = other, one % other
    return one


def fraction(top, bottom):
    """The fraction of two whole numbers; NoFraction where the second is 0."""
    if bottom == 0:
        raise NoFraction("a fraction's bottom can't be 0")
    divisor = greatest_divisor(abs(top), abs(bottom))
    # Divided by a number of its own sign, the bottom comes out above 0.
    if bottom < 0:
        divisor = -divisor
    return (top // divisor, bottom // divisor)


def plus(one, other):
    """The sum of two fractions."""
    return fraction(one[0] * other[1] + other[0] * one[1], one[1] * other[1])


def less(one, other):
    """The one fraction less the other."""
    return fraction(one[0] * other[1] - other[0] * one[1], one[1] * other[1])


def times(one, other):
    """The product of two fractions."""
    return fraction(one[0] * other[0], one[1] * other[1])


def over(one, other):
    """The one fraction divided by the other; NoFraction where that is (0, 1)."""
    return fraction(one[0] * other[1], one[1] * other[0])


def is_less(one, other):
    """Whether the one fraction is less than the other."""
    return one[0] * other[1] < other[0] * one[1]


def common_bottom(parts):
    """The least number from 1 on that each fraction's bottom divides."""
    common = 1
    for part in parts:
        common = common // greatest_divisor(common, part[1]) * part[1]
    return common


def top_over(part, bottom):
    """The top of the fraction where it is written over this bottom, which its own one divides."""
    return part[0] * (bottom // part[1])
