"""The calls on a network of roads, and what each of them answers."""

from bendlorries.corner import goes_round, longest_rod, narrowest_width
from bendlorries.layout import Load, Network, Road
from bendlorries.limits import MOST_HEAVY, MOST_HIGH, MOST_LONG, MOST_MINUTES, MOST_PLACES, MOST_ROADS, MOST_WIDE
from bendlorries.refusals import FULL, NO_SUCH, NONE_FOUND, NOT_AS_TOLD, NOT_STARTED
from bendlorries.ways import greatest_length, quickest

START = 0

# For each call by its number, how many numbers stand behind it. The calls that are not built
# are listed too: ahead of a start they must be read over and refused.
HOW_MANY_NUMBERS = (0, 0, 7, 2, 3, 3, 2, 2, 4, 5, 4, 4, 4, 5, 6, 6, 1, 2, 2, 1, 1, 0)


class CallNotBuilt(Exception):
    """A call that the document tells of and that isn't built yet."""


# The network is new already: a start alone makes one.
def answer_start(network):
    return [0]


def answer_place(network):
    if network.places == MOST_PLACES:
        return [FULL]
    network.places = network.places + 1
    return [network.places - 1]


def measures_as_told(minutes, high, heavy, a, b):
    if minutes < 1 or minutes > MOST_MINUTES:
        return False
    return high <= MOST_HIGH and heavy <= MOST_HEAVY and a <= MOST_WIDE and b <= MOST_WIDE


def answer_road(network, p, q, minutes, high, heavy, a, b):
    if not network.has_places(p, q):
        return [NO_SUCH]
    if p == q or not measures_as_told(minutes, high, heavy, a, b):
        return [NOT_AS_TOLD]
    if len(network.roads) == MOST_ROADS:
        return [FULL]
    network.roads.append(Road(p, q, minutes, high, heavy, a, b))
    return [len(network.roads) - 1]


def answer_close(network, r, on):
    if not network.has_road(r):
        return [NO_SUCH]
    if on > 1:
        return [NOT_AS_TOLD]
    road = network.roads[r]
    was_closed = road.closed
    road.closed = on == 1
    return [1 if was_closed else 0]


def answer_widen(network, r, a, b):
    if not network.has_road(r):
        return [NO_SUCH]
    road = network.roads[r]
    if a > MOST_WIDE or b > MOST_WIDE or a < road.a or b < road.b or not road.has_bend():
        return [NOT_AS_TOLD]
    road.a = a
    road.b = b
    return [0]


# The corner's calls take the network only to be called like the others: it has no say in them.
def answer_round(network, length, a, b):
    if length > MOST_LONG or a > MOST_WIDE or b > MOST_WIDE:
        return [NOT_AS_TOLD]
    return [1 if goes_round(length, a, b) else 0]


def answer_longest(network, a, b):
    if a > MOST_WIDE or b > MOST_WIDE:
        return [NOT_AS_TOLD]
    return [longest_rod(a, b)]


def answer_narrowest(network, length, a):
    if length > MOST_LONG or a > MOST_WIDE:
        return [NOT_AS_TOLD]
    b = narrowest_width(length, a)
    return [NONE_FOUND] if b is None else [b]


def answer_may(network, r, length, height, weight):
    load = Load(length, height, weight)
    if not network.has_road(r):
        return [NO_SUCH]
    if not load.is_as_told():
        return [NOT_AS_TOLD]
    return [network.roads[r].why_not(load)]


def answer_way(network, p, q, length, height, weight):
    load = Load(length, height, weight)
    if not network.has_places(p, q):
        return [NO_SUCH]
    if not load.is_as_told():
        return [NOT_AS_TOLD]
    way = quickest(network, p, q, load)
    return [NONE_FOUND] if way is None else [way[0]] + way[2]


def answer_most(network, p, q, height, weight):
    if not network.has_places(p, q):
        return [NO_SUCH]
    if p == q or not Load(0, height, weight).is_as_told():
        return [NOT_AS_TOLD]
    length = greatest_length(network, p, q, height, weight)
    return [NONE_FOUND] if length is None else [length]


# In the order of the calls' numbers.
HANDLERS = (
    answer_start,
    answer_place,
    answer_road,
    answer_close,
    answer_widen,
    answer_round,
    answer_longest,
    answer_narrowest,
    answer_may,
    answer_way,
    answer_most,
)


def hand_over(handler, network, n):
    """Call the handler with the numbers n, each by itself."""
    if len(n) == 0:
        return handler(network)
    if len(n) == 2:
        return handler(network, n[0], n[1])
    if len(n) == 3:
        return handler(network, n[0], n[1], n[2])
    if len(n) == 4:
        return handler(network, n[0], n[1], n[2], n[3])
    if len(n) == 5:
        return handler(network, n[0], n[1], n[2], n[3], n[4])
    return handler(network, n[0], n[1], n[2], n[3], n[4], n[5], n[6])


def answer_call(network, call, numbers):
    if network is None:
        return [NOT_STARTED]
    if call >= len(HANDLERS):
        raise CallNotBuilt(f"call {call} is not built yet")
    return hand_over(HANDLERS[call], network, numbers)


def answers(calls):
    """Give, for each call in order, how many numbers are answered, then these."""
    network = None
    told = []
    at = 0
    while at < len(calls):
        call = calls[at]
        behind = at + 1 + HOW_MANY_NUMBERS[call]
        if call == START:
            network = Network()
        answer = answer_call(network, call, calls[at + 1:behind])
        told.append(len(answer))
        told.extend(answer)
        at = behind
    return told
