"""Fractions as pairs (above, below) with nothing in common, below 1 or more; 0 is (0, 1)."""


def common_part(a, b):
    """The greatest number that divides both; the other one, where one is 0."""
    a = abs(a)
    b = abs(b)
    while b != 0:
        rest = a % b
        a = b
        b = rest
    return a


def ratio(above, below):
    """The fraction above by below, where below isn't 0."""
    part = common_part(above, below)
    if below < 0:
        part = -part
    return (above // part, below // part)


def add(one, other):
    return ratio(one[0] * other[1] + other[0] * one[1], one[1] * other[1])


def times(number, one):
    return ratio(number * one[0], one[1])


def is_less(one, other):
    return one[0] * other[1] < other[0] * one[1]
