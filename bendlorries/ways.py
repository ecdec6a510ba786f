"""The ways of a load from a place to another."""

from bendlorries.layout import MAY_GO, Load
from bendlorries.limits import MOST_LONG
from bendlorries.search import greatest


def try_road(best, here, there, r, minutes):
    """Go road r on from the best way to here; tell whether that betters the way to there."""
    if here not in best:
        return False
    so_far = best[here]
    # In this order two ways compare as the quickest is told: minutes, how many roads, the lesser road first.
    longer = (so_far[0] + minutes, so_far[1] + 1, so_far[2] + [r])
    if there in best and best[there] <= longer:
        return False
    best[there] = longer
    return True


def passable_roads(network, load):
    return [r for r, road in enumerate(network.roads) if road.why_not(load) == MAY_GO]


def quickest_over(network, passable, p, q):
    """Give the quickest way by passable roads alone: its minutes, how many roads it has, and these; or None."""
    best = {p: (0, 0, [])}
    bettered = True
    while bettered:
        bettered = False
        for r in passable:
            road = network.roads[r]
            if try_road(best, road.p, road.q, r, road.minutes):
                bettered = True
            if try_road(best, road.q, road.p, r, road.minutes):
                bettered = True
    return best.get(q)


def quickest(network, p, q, load):
    """Give the quickest way's minutes, how many roads it has, and these; or None."""
    return quickest_over(network, passable_roads(network, load), p, q)


def has_way(network, p, q, load):
    return quickest(network, p, q, load) is not None


def greatest_length(network, p, q, height, weight):
    """Give the greatest length of a load so high and heavy that has a way, or None."""
    if not has_way(network, p, q, Load(0, height, weight)):
        return None
    return greatest(MOST_LONG, lambda length: has_way(network, p, q, Load(length, height, weight)))


def greatest_weight(network, p, q, length, height):
    """Give the greatest weight, of those that are some road's limit, of a load that has a way, or None."""
    weights = [road.heavy for road in network.roads]
    return max([weight for weight in weights if has_way(network, p, q, Load(length, height, weight))], default=None)


def greatest_height(network, p, q, length, weight):
    """Give the greatest height, of those that are some road's limit, of a load that has a way, or None."""
    heights = [road.high for road in network.roads]
    return max([height for height in heights if has_way(network, p, q, Load(length, height, weight))], default=None)


def is_needed(network, passable, p, q, r):
    """Tell whether there is no way by the passable roads without r."""
    others = [other for other in passable if other != r]
    return quickest_over(network, others, p, q) is None


def needed_roads(network, p, q, load):
    """Give, rising, the roads that can't be done without; there must be a way."""
    passable = passable_roads(network, load)
    return [r for r in passable if is_needed(network, passable, p, q, r)]
