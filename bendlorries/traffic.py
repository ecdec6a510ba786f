"""Convoys on their ways: on which road each is in which minute, and whether two meet."""


class Stretch:
    """A road that a convoy comes onto in one minute and leaves as another begins."""

    def __init__(self, road_number, comes, leaves):
        self.road_number = road_number
        self.comes = comes
        self.leaves = leaves

    def holds(self, minute):
        return self.comes <= minute and minute < self.leaves

    def meets(self, other):
        return self.road_number == other.road_number and self.comes < other.leaves and other.comes < self.leaves


class Convoy:
    """When it sets out, and the stretches of its way in order."""

    def __init__(self, sets_out, stretches):
        self.sets_out = sets_out
        self.stretches = stretches

    def stretch_in(self, minute):
        """Give the stretch that it is on in that minute, or None."""
        for stretch in self.stretches:
            if stretch.holds(minute):
                return stretch
        return None


def convoy_by(network, roads, sets_out):
    """Give the convoy that goes these roads without a stop; the network doesn't hold it yet."""
    stretches = []
    minute = sets_out
    for r in roads:
        leaves = minute + network.roads[r].minutes
        stretches.append(Stretch(r, minute, leaves))
        minute = leaves
    return Convoy(sets_out, stretches)


def wait_behind(convoy, other):
    """Give how many minutes later the convoy must set out to be clear of each stretch where it meets the other."""
    waits = [0]
    for stretch in convoy.stretches:
        for taken in other.stretches:
            if stretch.meets(taken):
                waits.append(taken.leaves - stretch.comes)
    return max(waits)


def longest_wait(network, convoy):
    """Give the longest wait behind one of the network's convoys: 0 if it meets none."""
    return max([wait_behind(convoy, other) for other in network.convoys.values()], default=0)


def first_clear_minute(network, roads, minute):
    """Give the first minute, from this one on, at which a convoy by these roads meets none."""
    sets_out = minute
    wait = longest_wait(network, convoy_by(network, roads, sets_out))
    # Whoever sets out within a wait meets the same convoy still, so no minute that would do is passed over.
    while wait > 0:
        sets_out = sets_out + wait
        wait = longest_wait(network, convoy_by(network, roads, sets_out))
    return sets_out


def least_free_number(network):
    number = 0
    while number in network.convoys:
        number = number + 1
    return number


def convoy_on(network, r, minute):
    """Give the number of the first convoy that is on the road in that minute, or None."""
    for number in sorted(network.convoys):
        stretch = network.convoys[number].stretch_in(minute)
        if stretch is not None and stretch.road_number == r:
            return number
    return None
