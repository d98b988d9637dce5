"""Fractions as tuples (top, bottom) of integers, bottom from 1 on."""

from math import gcd, lcm


def lowest(top, bottom):
    """The fraction without a common divisor."""
    common = gcd(top, bottom)
    return (top // common, bottom // common)


def with_one_bottom(fractions):
    """The tuple (tops, bottom) of the same fractions, all with one bottom."""
    plain = [lowest(top, bottom) for top, bottom in fractions]
    unit = 1
    for _, bottom in plain:
        unit = lcm(unit, bottom)
    return ([top * (unit // bottom) for top, bottom in plain], unit)
