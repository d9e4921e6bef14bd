"""Fractions: tuples (top, bottom) in lowest terms, the bottom from 1 on."""


def greatest_divisor(one, other):
    one = abs(one)
    other = abs(other)
    while other != 0:
        rest = one % other
        one = other
        other = rest
    return one


def ratio(top, bottom):
    divisor = greatest_divisor(top, bottom)
    # Dividing by a divisor of the bottom's own sign brings the bottom above 0.
    if bottom < 0:
        divisor = -divisor
    return (top // divisor, bottom // divisor)


def plus(one, other):
    return ratio(one[0] * other[1] + other[0] * one[1], one[1] * other[1])


def times(one, other):
    return ratio(one[0] * other[0], one[1] * other[1])


def over(one, other):
    return ratio(one[0] * other[1], one[1] * other[0])


def total(some):
    result = (0, 1)
    for fraction in some:
        result = plus(result, fraction)
    return result


def common_bottom(some):
    bottom = 1
    for fraction in some:
        bottom = bottom * fraction[1] // greatest_divisor(bottom, fraction[1])
    return bottom
