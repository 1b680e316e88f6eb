"""Fractions: tuples (top, bottom) in lowest terms, bottom at least 1."""

from math import gcd, lcm

from nextwork.wrongs import NoFraction


def is_whole(value):
    """True if the value is an integer; True and False are none."""
    return isinstance(value, int) and not isinstance(value, bool)


def is_fraction(value):
    """True if the value is a fraction, otherwise False."""
    if not isinstance(value, tuple) or len(value) != 2:
        return False
    top, bottom = value
    if not is_whole(top) or not is_whole(bottom):
        return False
    return bottom >= 1 and gcd(top, bottom) == 1


def are_fractions(value, many):
    """True if the value is a tuple of so many fractions."""
    if not isinstance(value, tuple) or len(value) != many:
        return False
    return all(is_fraction(entry) for entry in value)


def need_fraction(value):
    """Raise NoFraction unless the value is a fraction."""
    if not is_fraction(value):
        raise NoFraction("not a fraction")


def fraction(top, bottom):
    """The fraction with the value of top divided by bottom."""
    if not is_whole(top) or not is_whole(bottom):
        raise NoFraction("top and bottom of a fraction are integers")
    if bottom == 0:
        raise NoFraction("the bottom of a fraction is not 0")
    common = gcd(top, bottom)
    if bottom < 0:
        common = -common
    return (top // common, bottom // common)


def plus(one, other):
    """The sum of two fractions."""
    need_fraction(one)
    need_fraction(other)
    return fraction(one[0] * other[1] + other[0] * one[1], one[1] * other[1])


def times(one, other):
    """The product of two fractions."""
    need_fraction(one)
    need_fraction(other)
    return fraction(one[0] * other[0], one[1] * other[1])


def compare(one, other):
    """-1, 0 or 1 as the first is less than, equal to, greater than the other."""
    need_fraction(one)
    need_fraction(other)
    # Bottoms are above 0, so the cross products stand in the same order.
    left = one[0] * other[1]
    right = other[0] * one[1]
    if left < right:
        return -1
    if left > right:
        return 1
    return 0


def minus(one, other):
    """The difference of two fractions."""
    return plus(one, times((-1, 1), other))


def over(one, other):
    """The quotient of two fractions, the other one not 0."""
    need_fraction(one)
    need_fraction(other)
    return fraction(one[0] * other[1], one[1] * other[0])


def greatest(values):
    """The greatest of a list of at least one fraction."""
    most = values[0]
    for value in values:
        if compare(value, most) > 0:
            most = value
    return most


def common_bottom(values):
    """The least number that the bottoms of all the fractions divide."""
    common = 1
    for _, bottom in values:
        common = lcm(common, bottom)
    return common
