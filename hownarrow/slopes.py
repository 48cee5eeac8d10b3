"""Slopes: which is less steep, which is simpler, which lie in a range."""

from math import gcd


def less_steep(one, other):
    """Tell whether one END is LESS STEEP than the other one."""
    return one[1] * other[0] < one[0] * other[1]


def added(one, other):
    """Return the sum of two ENDS, item by item."""
    return (one[0] + other[0], one[1] + other[1])


def are_neighbours(one, other):
    """Tell whether two ENDS are the NEIGHBOURS of some WORD."""
    return one[0] * other[1] == one[1] * other[0] + 1


def plainness(slope):
    """Return what is less for a SIMPLER one of two SLOPES."""
    return (slope[0] + slope[1], slope[0])


def simpler(one, other):
    """Tell whether one SLOPE is SIMPLER than the other one."""
    return plainness(one) < plainness(other)


def lies_in(within, slope):
    """Tell whether a SLOPE lies in a RANGE."""
    low, high = within
    return less_steep(low, slope) and less_steep(slope, high)


def simplest_first(slopes):
    """Return the list of SLOPES, each once, SIMPLER ones ahead."""
    once = {slope: True for slope in slopes}
    return sorted(list(once), key=plainness)


def slopes_up_to(most):
    """Return all SLOPES with p + q at most most, SIMPLER ones ahead."""
    return [
        (p, total - p)
        for total in range(2, most + 1)
        for p in range(1, total)
        if gcd(p, total - p) == 1
    ]


def slopes_between(within, most):
    """Return those of slopes_up_to that lie in a RANGE."""
    return [slope for slope in slopes_up_to(most) if lies_in(within, slope)]


def mirrored(end):
    """Return an END with p and q exchanged."""
    return (end[1], end[0])
