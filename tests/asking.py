"""How the tests write calls and read the answers."""

from bendlorries.roads import answers

HUGE = 4294967295

START = [0]
PLACE = [1]
STATE = [21]

HOW_MANY_NUMBERS = {
    "start": 0, "place": 0, "road": 7, "close": 2, "widen": 3, "round": 3, "longest": 2, "narrowest": 2,
    "may": 4, "way": 5, "most": 4, "heaviest": 4, "highest": 4, "needs": 5, "soonest": 6, "send": 6,
    "drop": 1, "where": 2, "busy": 2, "convoy": 1, "look": 1, "state": 0,
}
NAMES = list(HOW_MANY_NUMBERS)


def call(name, *numbers):
    if len(numbers) != HOW_MANY_NUMBERS[name]:
        raise ValueError(name)
    return [NAMES.index(name)] + list(numbers)


def road(p, q, minutes=10, high=100, heavy=1000, a=0, b=0):
    return call("road", p, q, minutes, high, heavy, a, b)


def close(r, on=1):
    return call("close", r, on)


def way(p, q, length=0, height=0, weight=0):
    return call("way", p, q, length, height, weight)


def most(p, q, height=0, weight=0):
    return call("most", p, q, height, weight)


def may(r, length=0, height=0, weight=0):
    return call("may", r, length, height, weight)


def heaviest(p, q, length=0, height=0):
    return call("heaviest", p, q, length, height)


def highest(p, q, length=0, weight=0):
    return call("highest", p, q, length, weight)


def needs(p, q, length=0, height=0, weight=0):
    return call("needs", p, q, length, height, weight)


def soonest(p, q, t, length=0, height=0, weight=0):
    return call("soonest", p, q, length, height, weight, t)


def send(p, q, t, length=0, height=0, weight=0):
    return call("send", p, q, length, height, weight, t)


def drop(k):
    return call("drop", k)


def where(k, t):
    return call("where", k, t)


def busy(r, t):
    return call("busy", r, t)


def convoy(k):
    return call("convoy", k)


def look(r):
    return call("look", r)


def country(places, *roads):
    """The calls that build so many places and these roads."""
    return [START] + [PLACE] * places + list(roads)


def split(told):
    """The answers, one list a call."""
    if not all(type(number) is int for number in told):
        raise AssertionError("an answer that is no whole number")
    found = []
    at = 0
    while at < len(told):
        end = at + 1 + told[at]
        if told[at] < 1 or end > len(told):
            raise AssertionError("a count that is wrong")
        found.append(told[at + 1:end])
        at = end
    return found


def ask(*calls):
    """All answers to these calls, one list a call."""
    found = split(answers([number for one in calls for number in one]))
    if len(found) != len(calls):
        raise AssertionError("not one answer a call")
    return found


def ask_in(built, *calls):
    """The answers to these calls behind those that build a country, each of which must be taken."""
    found = ask(*built, *calls)
    refused = [answer for answer in found[:len(built)] if answer[0] < 0]
    if refused:
        raise AssertionError("the country is refused")
    return found[len(built):]


class Numbers:
    """Numbers that look thrown, the same ones each time."""

    def __init__(self, seed):
        self.seed = seed

    def below(self, limit):
        self.seed = (self.seed * 6364136223846793005 + 1442695040888963407) % 2 ** 64
        return (self.seed >> 33) % limit


def thrown_country(thrown):
    """How many places, and roads as tuples, of few measures so that many ways are as quick."""
    places = 2 + thrown.below(7)
    roads = []
    for k in range(thrown.below(15)):
        p = thrown.below(places)
        q = (p + 1 + thrown.below(places - 1)) % places
        a = thrown.below(3) * thrown.below(100)
        b = thrown.below(3) * thrown.below(100)
        roads.append((p, q, 1 + thrown.below(4), 40 + 30 * thrown.below(3), 400 + 300 * thrown.below(3), a, b))
    return places, roads


def all_ways(roads, p, q, allowed):
    """Every way from p to q that comes to no place twice, as (minutes, how many roads, the roads)."""
    found = []
    waiting = [(p, {p}, 0, [])]
    while waiting:
        here, seen, minutes, gone = waiting.pop()
        if here == q:
            found.append((minutes, len(gone), gone))
            continue
        for r in allowed:
            if here in roads[r][:2]:
                there = sum(roads[r][:2]) - here
                if there not in seen:
                    waiting.append((there, seen | {there}, minutes + roads[r][2], gone + [r]))
    return found
