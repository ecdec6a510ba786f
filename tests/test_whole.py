"""All calls at once: lists that look thrown, against the document told a second time as plainly as it can be."""

import unittest

from bendlorries.roads import answers
from tests.asking import HOW_MANY_NUMBERS, HUGE, NAMES, Numbers, all_ways, ask, call

LIMITS = {"l": 300, "h": 100, "w": 1000}


def rod_turns(length, a, b):
    c = length ** 2 - a ** 2 - b ** 2
    return c <= 0 or c ** 3 <= 27 * a ** 2 * b ** 2 * length ** 2


class Refused(Exception):
    pass


def refuse_if(wrong, number):
    if wrong:
        raise Refused(number)


class Telling:
    """The document's object; roads are lists [p, q, minutes, high, heavy, a, b, closed], convoys (t, roads)."""

    def __init__(self):
        self.started = False

    def answer(self, name, numbers):
        try:
            refuse_if(not self.started and name != "start", -11)
            return getattr(self, "tell_" + name)(*numbers)
        except Refused as refusal:
            return list(refusal.args)

    def need_places(self, *places):
        refuse_if(any(place >= self.places for place in places), -2)

    def need_road(self, r):
        refuse_if(r >= len(self.roads), -2)

    def need_convoy(self, k):
        refuse_if(k not in self.convoys, -2)

    def need_load(self, l=0, h=0, w=0):
        refuse_if(l > 300 or h > 100 or w > 1000, -22)

    def may_go(self, road, l, h, w):
        turns = road[5] == 0 == road[6] or rod_turns(l, road[5], road[6])
        return not road[7] and h <= road[3] and w <= road[4] and turns

    def ways(self, p, q, l, h, w, without=None):
        allowed = [r for r, road in enumerate(self.roads) if r != without and self.may_go(road, l, h, w)]
        return all_ways(self.roads, p, q, allowed)

    def need_way(self, p, q, l, h, w):
        found = self.ways(p, q, l, h, w)
        refuse_if(not found, -33)
        return min(found)

    def minutes_on(self, t, gone):
        """Every (road, minute) of a convoy, in order."""
        found = []
        for r in gone:
            found += [(r, minute) for minute in range(t, t + self.roads[r][2])]
            t += self.roads[r][2]
        return found

    def taken(self):
        return {held for one in self.convoys.values() for held in self.minutes_on(*one)}

    def tell_start(self):
        self.started, self.places, self.roads, self.convoys = True, 0, [], {}
        return [0]

    def tell_place(self):
        refuse_if(self.places == 8, -28)
        self.places += 1
        return [self.places - 1]

    def tell_road(self, p, q, minutes, high, heavy, a, b):
        self.need_places(p, q)
        refuse_if(p == q or minutes not in range(1, 201) or high > 100 or heavy > 1000 or a > 200 or b > 200, -22)
        refuse_if(len(self.roads) == 14, -28)
        self.roads.append([p, q, minutes, high, heavy, a, b, 0])
        return [len(self.roads) - 1]

    def tell_close(self, r, on):
        self.need_road(r)
        refuse_if(on > 1, -22)
        was, self.roads[r][7] = self.roads[r][7], on
        return [was]

    def tell_widen(self, r, a, b):
        self.need_road(r)
        old = self.roads[r][5:7]
        refuse_if(a > 200 or b > 200 or a < old[0] or b < old[1] or old == [0, 0], -22)
        self.roads[r][5:7] = [a, b]
        return [0]

    def tell_round(self, l, a, b):
        refuse_if(l > 300 or a > 200 or b > 200, -22)
        return [int(rod_turns(l, a, b))]

    def tell_longest(self, a, b):
        refuse_if(a > 200 or b > 200, -22)
        return [max(l for l in range(301) if rod_turns(l, a, b))]

    def tell_narrowest(self, l, a):
        refuse_if(l > 300 or a > 200, -22)
        found = [b for b in range(201) if rod_turns(l, a, b)]
        refuse_if(not found, -33)
        return found[:1]

    def tell_may(self, r, l, h, w):
        self.need_road(r)
        self.need_load(l, h, w)
        road = self.roads[r]
        reasons = {4: road[7], 1: h > road[3], 2: w > road[4], 3: not self.may_go(road, l, h, w)}
        return [number for number, holds in reasons.items() if holds][:1] or [0]

    def tell_way(self, p, q, l, h, w):
        self.need_places(p, q)
        self.need_load(l, h, w)
        minutes, count, gone = self.need_way(p, q, l, h, w)
        return [minutes] + gone

    def greatest(self, p, q, measures, looked_at):
        """The greatest of those looked at with which there is a way; measures may lack the one that is sought."""
        self.need_places(p, q)
        self.need_load(**measures)
        refuse_if(p == q, -22)
        sought = (set(LIMITS) - set(measures)).pop()
        found = [one for one in looked_at if self.ways(p, q, **measures, **{sought: one})]
        refuse_if(not found, -33)
        return [max(found)]

    def tell_most(self, p, q, h, w):
        lengths = {length for road in self.roads for length in range(301) if rod_turns(length, road[5], road[6])
                   and (length == 300 or not rod_turns(length + 1, road[5], road[6]))}
        return self.greatest(p, q, {"h": h, "w": w}, lengths | {0, 300})

    def tell_heaviest(self, p, q, l, h):
        return self.greatest(p, q, {"l": l, "h": h}, [road[4] for road in self.roads])

    def tell_highest(self, p, q, l, w):
        return self.greatest(p, q, {"l": l, "w": w}, [road[3] for road in self.roads])

    def tell_needs(self, p, q, l, h, w):
        self.need_places(p, q)
        self.need_load(l, h, w)
        self.need_way(p, q, l, h, w)
        found = [r for r in range(len(self.roads)) if not self.ways(p, q, l, h, w, without=r)]
        return [len(found)] + found

    def start_of(self, p, q, l, h, w, t):
        self.need_places(p, q)
        self.need_load(l, h, w)
        refuse_if(t > 5000, -22)
        return self.need_way(p, q, l, h, w)

    def tell_soonest(self, p, q, l, h, w, t):
        minutes, count, gone = self.start_of(p, q, l, h, w, t)
        taken = self.taken()
        while taken & set(self.minutes_on(t, gone)):
            t += 1
        return [t, t + minutes]

    def tell_send(self, p, q, l, h, w, t):
        minutes, count, gone = self.start_of(p, q, l, h, w, t)
        refuse_if(self.taken() & set(self.minutes_on(t, gone)), -17)
        refuse_if(len(self.convoys) == 8, -28)
        number = min(k for k in range(8) if k not in self.convoys)
        self.convoys[number] = (t, gone)
        return [number, t + minutes]

    def tell_drop(self, k):
        self.need_convoy(k)
        return [self.convoys.pop(k)[0]]

    def tell_where(self, k, t):
        self.need_convoy(k)
        here = [r for r, minute in self.minutes_on(*self.convoys[k]) if minute == t]
        refuse_if(not here, -33)
        yet = [r for r, minute in self.minutes_on(*self.convoys[k]) if minute >= t and r == here[0]]
        return [here[0], len(yet)]

    def tell_busy(self, r, t):
        self.need_road(r)
        found = [k for k, one in self.convoys.items() if (r, t) in self.minutes_on(*one)]
        refuse_if(not found, -33)
        return [min(found)]

    def tell_convoy(self, k):
        self.need_convoy(k)
        return [self.convoys[k][0]] + self.convoys[k][1]

    def tell_look(self, r):
        self.need_road(r)
        return [self.roads[r][2]] + self.roads[r][:2] + self.roads[r][3:]

    def tell_state(self):
        return [self.places, len(self.roads), len(self.convoys)]


# What the numbers of each call are, and for each of these how far the thrown ones go.
KINDS = {
    "road": "p p minutes h w width width", "close": "r on", "widen": "r width width", "round": "l width width",
    "longest": "width width", "narrowest": "l width", "may": "r l h w", "way": "p p l h w", "most": "p p h w",
    "heaviest": "p p l h", "highest": "p p l w", "needs": "p p l h w", "soonest": "p p l h w t",
    "send": "p p l h w t", "drop": "k", "where": "k t", "busy": "r t", "convoy": "k", "look": "r",
}
EDGES = {"minutes": (0, 200, 201), "h": (0, 100, 101), "w": (0, 1000, 1001), "width": (0, 200, 201), "on": (1, 2),
         "l": (0, 300, 301), "t": (0, 5000, 5001), "p": (7, 8), "r": (13, 14), "k": (7, 8)}
OFTEN = {"minutes": (1, 12), "h": (20, 3), "w": (200, 3), "width": (15, 30), "l": (20, 50), "t": (0, 30)}
OF_ROADS = {"h": (21, 30), "w": (201, 300)}
OF_CORNERS = {"l": (0, 301), "width": (0, 201)}
# Calls that are thrown often, so that much is there and much is asked of it.
MANY = ["send"] * 12 + ["soonest"] * 10 + ["where"] * 8 + ["busy"] * 8 + ["needs"] * 4 + ["close"] * 2 + ["drop"] * 2


def thrown_number(thrown, kind, telling, name):
    dice = thrown.below(60)
    if dice == 0:
        return HUGE
    if dice == 1:
        return EDGES[kind][thrown.below(len(EDGES[kind]))]
    if kind in "prk":
        there = {"p": telling.places, "r": len(telling.roads), "k": len(telling.convoys)}[kind]
        return thrown.below(there + (dice == 2) or 1)
    if kind == "on":
        return int(thrown.below(4) == 0)
    if name == "road" and kind == "width" and thrown.below(2):
        return 0
    narrower = OF_ROADS if name == "road" else OF_CORNERS if name in ("round", "longest", "narrowest") else {}
    least, count = narrower.get(kind, OFTEN[kind])
    return least + thrown.below(count)


def thrown_call(thrown, telling):
    name = NAMES[1 + thrown.below(21)] if thrown.below(3) == 0 else MANY[thrown.below(len(MANY))]
    if thrown.below(3) and len(telling.roads) < 12:
        name = "place" if telling.places < 5 else "road"
    if thrown.below(300) == 0:
        name = "start"
    kinds = KINDS.get(name, "").split()
    numbers = [thrown_number(thrown, kind, telling, name) for kind in kinds]
    # From a place to itself is thrown often enough without this.
    if kinds[:2] == ["p", "p"] and numbers[0] == numbers[1] and thrown.below(4):
        numbers[1] = thrown.below(telling.places or 1)
    return name, numbers


def thrown_list(thrown, count):
    """So many calls, and what the document answers to each."""
    telling = Telling()
    calls, wished = [("start", [])], [telling.answer("start", [])]
    while len(calls) < count:
        name, numbers = thrown_call(thrown, telling)
        calls.append((name, numbers))
        wished.append(telling.answer(name, numbers))
    return calls, wished


class ThrownLists(unittest.TestCase):
    @classmethod
    def setUpClass(cls):
        thrown = Numbers(5)
        cls.lists = [thrown_list(thrown, 200) for k in range(40)]

    def test_each_answer(self):
        for calls, wished in self.lists:
            found = ask(*[call(name, *numbers) for name, numbers in calls])
            for at in range(len(calls)):
                self.assertEqual(found[at], wished[at], (calls[at], calls[:at]))

    def test_each_answer_of_each_call_is_among_them(self):
        seen = {(name, min(wished[at][0], 0)) for calls, wished in self.lists for at, (name, numbers) in enumerate(calls)}
        refusals = {
            "start": (), "place": (-28,), "road": (-2, -22, -28), "close": (-2, -22), "widen": (-2, -22),
            "round": (-22,), "longest": (-22,), "narrowest": (-22, -33), "may": (-2, -22), "way": (-2, -22, -33),
            "most": (-2, -22, -33), "heaviest": (-2, -22, -33), "highest": (-2, -22, -33), "needs": (-2, -22, -33),
            "soonest": (-2, -22, -33), "send": (-2, -22, -33, -17, -28), "drop": (-2,), "where": (-2, -33),
            "busy": (-2, -33), "convoy": (-2,), "look": (-2,), "state": (),
        }
        self.assertEqual(seen, {(name, one) for name in HOW_MANY_NUMBERS for one in refusals[name] + (0,)})

    def test_the_same_again_and_nothing_changed(self):
        for calls, wished in self.lists:
            numbers = [number for name, behind in calls for number in call(name, *behind)]
            before = list(numbers)
            told = answers(numbers)
            self.assertEqual(numbers, before)
            self.assertEqual(answers(numbers), told)
            self.assertEqual(told, [number for one in wished for number in [len(one)] + one])


class ConvoysDoNotMeet(unittest.TestCase):
    """What holds, c, from the answers alone."""

    def test_no_road_has_two_in_one_minute_and_the_soonest_is_the_soonest(self):
        thrown = Numbers(6)
        for k in range(25):
            places = 3 + thrown.below(4)
            built = [call("start")] + [call("place")] * places
            for r in range(places + thrown.below(4)):
                p = r % places
                q = (p + 1 + thrown.below(places - 1)) % places
                built.append(call("road", p, q, 1 + thrown.below(9), 100, 1000, 0, 0))
            for number in range(8):
                trip = (thrown.below(places), thrown.below(places), 0, 0, 0)
                earliest = thrown.below(20)
                found = ask(*built, call("soonest", *trip, earliest))[-1]
                if found == [-33]:
                    continue
                tried = ask(*built, *[call("send", *trip, t) for t in range(earliest, found[0])])[len(built):]
                self.assertEqual(tried, [[-17]] * (found[0] - earliest))
                built.append(call("send", *trip, found[0]))
                self.assertEqual(ask(*built)[-1][1:], found[1:])
            self.check_where(built)

    def check_where(self, built):
        convoys = ask(*built, call("state"))[-1][2]
        for t in range(0, 140):
            found = ask(*built, *[call("where", k, t) for k in range(convoys)])[len(built):]
            on = [answer[0] for answer in found if answer != [-33]]
            self.assertEqual(len(on), len(set(on)), (built, t))
            for k, answer in enumerate(found):
                if answer != [-33]:
                    self.assertEqual(ask(*built, call("busy", answer[0], t))[-1], [k])


if __name__ == "__main__":
    unittest.main()
