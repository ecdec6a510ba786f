"""The ways of a load from a place to another."""

from bendlorries.layout import MAY_GO, Load
from bendlorries.limits import MOST_LONG
from bendlorries.search import greatest


def try_road(best, here, there, r, minutes):
    """Go road r on from the best way to here; tell whether that betters the way to there."""
    if here not in best:
        return False
    so_far = best[here]
    # In this order two ways compare as the quickest is told: minutes, how many roads, the lesser road first.
    longer = (so_far[0] + minutes, so_far[1] + 1, so_far[2] + [r])
    if there in best and best[there] <= longer:
        return False
    best[there] = longer
    return True


def quickest(network, p, q, load):
    """Give the quickest way's minutes, how many roads it has, and these; or None."""
    passable = [r for r, road in enumerate(network.roads) if road.why_not(load) == MAY_GO]
    best = {p: (0, 0, [])}
    bettered = True
    while bettered:
        bettered = False
        for r in passable:
            road = network.roads[r]
            if try_road(best, road.p, road.q, r, road.minutes):
                bettered = True
            if try_road(best, road.q, road.p, r, road.minutes):
                bettered = True
    return best.get(q)


def has_way(network, p, q, load):
    return quickest(network, p, q, load) is not None


def greatest_length(network, p, q, height, weight):
    """Give the greatest length of a load so high and heavy that has a way, or None."""
    if not has_way(network, p, q, Load(0, height, weight)):
        return None
    return greatest(MOST_LONG, lambda length: has_way(network, p, q, Load(length, height, weight)))
