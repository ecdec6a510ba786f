"""The calls on a network of roads, and what each of them answers."""

from bendlorries.corner import goes_round, longest_rod, narrowest_width
from bendlorries.layout import Load, Network, Road
from bendlorries.limits import LATEST_START, MOST_CONVOYS, MOST_MINUTES, MOST_PLACES, MOST_ROADS
from bendlorries.limits import MOST_HEAVY, MOST_HIGH, MOST_LONG, MOST_WIDE
from bendlorries.refusals import FULL, NO_SUCH, NONE_FOUND, NOT_AS_TOLD, NOT_STARTED, WOULD_MEET
from bendlorries.traffic import convoy_by, convoy_on, first_clear_minute, least_free_number, longest_wait
from bendlorries.ways import greatest_height, greatest_length, greatest_weight, needed_roads, quickest

START = 0

# For each call by its number, how many numbers stand behind it.
HOW_MANY_NUMBERS = (0, 0, 7, 2, 3, 3, 2, 2, 4, 5, 4, 4, 4, 5, 6, 6, 1, 2, 2, 1, 1, 0)


def number_or_none_found(number):
    return [NONE_FOUND] if number is None else [number]


# The network is new already: a start alone makes one.
def answer_start(network):
    return [0]


def answer_place(network):
    if network.places == MOST_PLACES:
        return [FULL]
    network.places = network.places + 1
    return [network.places - 1]


def measures_as_told(minutes, high, heavy, a, b):
    if minutes < 1 or minutes > MOST_MINUTES:
        return False
    return high <= MOST_HIGH and heavy <= MOST_HEAVY and a <= MOST_WIDE and b <= MOST_WIDE


def answer_road(network, p, q, minutes, high, heavy, a, b):
    if not network.has_places(p, q):
        return [NO_SUCH]
    if p == q or not measures_as_told(minutes, high, heavy, a, b):
        return [NOT_AS_TOLD]
    if len(network.roads) == MOST_ROADS:
        return [FULL]
    network.roads.append(Road(p, q, minutes, high, heavy, a, b))
    return [len(network.roads) - 1]


def answer_close(network, r, on):
    if not network.has_road(r):
        return [NO_SUCH]
    if on > 1:
        return [NOT_AS_TOLD]
    road = network.roads[r]
    was_closed = road.closed
    road.closed = on == 1
    return [1 if was_closed else 0]


def answer_widen(network, r, a, b):
    if not network.has_road(r):
        return [NO_SUCH]
    road = network.roads[r]
    if a > MOST_WIDE or b > MOST_WIDE or a < road.a or b < road.b or not road.has_bend():
        return [NOT_AS_TOLD]
    road.a = a
    road.b = b
    return [0]


# The corner's calls take the network only to be called like the others: it has no say in them.
def answer_round(network, length, a, b):
    if length > MOST_LONG or a > MOST_WIDE or b > MOST_WIDE:
        return [NOT_AS_TOLD]
    return [1 if goes_round(length, a, b) else 0]


def answer_longest(network, a, b):
    if a > MOST_WIDE or b > MOST_WIDE:
        return [NOT_AS_TOLD]
    return [longest_rod(a, b)]


def answer_narrowest(network, length, a):
    if length > MOST_LONG or a > MOST_WIDE:
        return [NOT_AS_TOLD]
    return number_or_none_found(narrowest_width(length, a))


def answer_may(network, r, length, height, weight):
    load = Load(length, height, weight)
    if not network.has_road(r):
        return [NO_SUCH]
    if not load.is_as_told():
        return [NOT_AS_TOLD]
    return [network.roads[r].why_not(load)]


def refusal_of_load(network, p, q, load):
    """Give what refuses any question of the load's ways from p to q, or None."""
    if not network.has_places(p, q):
        return NO_SUCH
    if not load.is_as_told():
        return NOT_AS_TOLD
    return None


def answer_way(network, p, q, length, height, weight):
    load = Load(length, height, weight)
    refusal = refusal_of_load(network, p, q, load)
    if refusal is not None:
        return [refusal]
    way = quickest(network, p, q, load)
    return [NONE_FOUND] if way is None else [way[0]] + way[2]


def refusal_of_greatest(network, p, q, load):
    """Give what refuses the question of a greatest measure, for which the load has 0, or None."""
    refusal = refusal_of_load(network, p, q, load)
    if refusal is None and p == q:
        return NOT_AS_TOLD
    return refusal


def answer_most(network, p, q, height, weight):
    refusal = refusal_of_greatest(network, p, q, Load(0, height, weight))
    if refusal is not None:
        return [refusal]
    return number_or_none_found(greatest_length(network, p, q, height, weight))


def answer_heaviest(network, p, q, length, height):
    refusal = refusal_of_greatest(network, p, q, Load(length, height, 0))
    if refusal is not None:
        return [refusal]
    return number_or_none_found(greatest_weight(network, p, q, length, height))


def answer_highest(network, p, q, length, weight):
    refusal = refusal_of_greatest(network, p, q, Load(length, 0, weight))
    if refusal is not None:
        return [refusal]
    return number_or_none_found(greatest_height(network, p, q, length, weight))


def answer_needs(network, p, q, length, height, weight):
    load = Load(length, height, weight)
    refusal = refusal_of_load(network, p, q, load)
    if refusal is not None:
        return [refusal]
    if quickest(network, p, q, load) is None:
        return [NONE_FOUND]
    needed = needed_roads(network, p, q, load)
    return [len(needed)] + needed


def refusal_of_start(network, p, q, load, t):
    """Give what refuses any question of the load's setting out at t, or None."""
    refusal = refusal_of_load(network, p, q, load)
    if refusal is None and t > LATEST_START:
        return NOT_AS_TOLD
    return refusal


def answer_soonest(network, p, q, length, height, weight, t):
    load = Load(length, height, weight)
    refusal = refusal_of_start(network, p, q, load, t)
    if refusal is not None:
        return [refusal]
    way = quickest(network, p, q, load)
    if way is None:
        return [NONE_FOUND]
    sets_out = first_clear_minute(network, way[2], t)
    return [sets_out, sets_out + way[0]]


def answer_send(network, p, q, length, height, weight, t):
    load = Load(length, height, weight)
    refusal = refusal_of_start(network, p, q, load, t)
    if refusal is not None:
        return [refusal]
    way = quickest(network, p, q, load)
    if way is None:
        return [NONE_FOUND]
    convoy = convoy_by(network, way[2], t)
    if longest_wait(network, convoy) > 0:
        return [WOULD_MEET]
    if len(network.convoys) == MOST_CONVOYS:
        return [FULL]
    number = least_free_number(network)
    network.convoys[number] = convoy
    return [number, t + way[0]]


def answer_drop(network, k):
    if not network.has_convoy(k):
        return [NO_SUCH]
    convoy = network.convoys.pop(k)
    return [convoy.sets_out]


def answer_where(network, k, t):
    if not network.has_convoy(k):
        return [NO_SUCH]
    stretch = network.convoys[k].stretch_in(t)
    return [NONE_FOUND] if stretch is None else [stretch.road_number, stretch.leaves - t]


def answer_busy(network, r, t):
    if not network.has_road(r):
        return [NO_SUCH]
    return number_or_none_found(convoy_on(network, r, t))


def answer_convoy(network, k):
    if not network.has_convoy(k):
        return [NO_SUCH]
    convoy = network.convoys[k]
    return [convoy.sets_out] + [stretch.road_number for stretch in convoy.stretches]


def answer_look(network, r):
    if not network.has_road(r):
        return [NO_SUCH]
    road = network.roads[r]
    return [road.minutes, road.p, road.q, road.high, road.heavy, road.a, road.b, 1 if road.closed else 0]


def answer_state(network):
    return [network.places, len(network.roads), len(network.convoys)]


# In the order of the calls' numbers.
HANDLERS = (
    answer_start,
    answer_place,
    answer_road,
    answer_close,
    answer_widen,
    answer_round,
    answer_longest,
    answer_narrowest,
    answer_may,
    answer_way,
    answer_most,
    answer_heaviest,
    answer_highest,
    answer_needs,
    answer_soonest,
    answer_send,
    answer_drop,
    answer_where,
    answer_busy,
    answer_convoy,
    answer_look,
    answer_state,
)


def hand_over(handler, network, n):
    """Call the handler with the numbers n, each by itself."""
    if len(n) == 0:
        return handler(network)
    if len(n) == 1:
        return handler(network, n[0])
    if len(n) == 2:
        return handler(network, n[0], n[1])
    if len(n) == 3:
        return handler(network, n[0], n[1], n[2])
    if len(n) == 4:
        return handler(network, n[0], n[1], n[2], n[3])
    if len(n) == 5:
        return handler(network, n[0], n[1], n[2], n[3], n[4])
    if len(n) == 6:
        return handler(network, n[0], n[1], n[2], n[3], n[4], n[5])
    return handler(network, n[0], n[1], n[2], n[3], n[4], n[5], n[6])


def answer_call(network, call, numbers):
    if network is None:
        return [NOT_STARTED]
    return hand_over(HANDLERS[call], network, numbers)


def answers(calls):
    """Give, for each call in order, how many numbers are answered, then these."""
    network = None
    told = []
    at = 0
    while at < len(calls):
        call = calls[at]
        behind = at + 1 + HOW_MANY_NUMBERS[call]
        if call == START:
            network = Network()
        answer = answer_call(network, call, calls[at + 1:behind])
        told.append(len(answer))
        told.extend(answer)
        at = behind
    return told
