"""The corner between two roads, and the rods that go round it."""

from bendlorries.limits import MOST_LONG, MOST_WIDE
from bendlorries.search import greatest


def goes_round(length, a, b):
    """Tell whether a rod so long goes round the corner between roads a and b wide."""
    c = length * length - a * a - b * b
    return c <= 0 or c * c * c <= 27 * a * a * b * b * length * length


def longest_rod(a, b):
    """Give the length of the longest rod that goes round."""
    return greatest(MOST_LONG, lambda length: goes_round(length, a, b))


def narrowest_width(length, a):
    """Give the least width of the other road with which a rod goes round, or None."""
    for b in range(MOST_WIDE + 1):
        if goes_round(length, a, b):
            return b
    return None
