"""Places, the roads between them, and the loads that may go these."""

from bendlorries.corner import goes_round
from bendlorries.limits import MOST_HEAVY, MOST_HIGH, MOST_LONG

MAY_GO = 0
TOO_HIGH = 1
TOO_HEAVY = 2
NOT_ROUND = 3
IS_CLOSED = 4


class Load:
    """What is driven: how long, how high and how heavy it is."""

    def __init__(self, length, height, weight):
        self.length = length
        self.height = height
        self.weight = weight

    def is_as_told(self):
        return self.length <= MOST_LONG and self.height <= MOST_HIGH and self.weight <= MOST_HEAVY


class Road:
    """A road between the places p and q, its limits, and its bend's widths a and b."""

    def __init__(self, p, q, minutes, high, heavy, a, b):
        self.p = p
        self.q = q
        self.minutes = minutes
        self.high = high
        self.heavy = heavy
        self.a = a
        self.b = b
        self.closed = False

    def has_bend(self):
        return self.a > 0 or self.b > 0

    def why_not(self, load):
        """Give MAY_GO, or the first reason that keeps the load off the road."""
        if self.closed:
            return IS_CLOSED
        if load.height > self.high:
            return TOO_HIGH
        if load.weight > self.heavy:
            return TOO_HEAVY
        if self.has_bend() and not goes_round(load.length, self.a, self.b):
            return NOT_ROUND
        return MAY_GO


class Network:
    """How many places there are, the roads in the order of their numbers, and the convoys by theirs."""

    def __init__(self):
        self.places = 0
        self.roads = []
        self.convoys = {}

    def has_places(self, p, q):
        return p < self.places and q < self.places

    def has_road(self, r):
        return r < len(self.roads)

    def has_convoy(self, k):
        return k in self.convoys
