"""Point 5: where, busy, look, state."""

import unittest

from bendlorries.layout import Network, Road
from bendlorries.traffic import convoy_by, convoy_on
from tests.asking import (
    HUGE, PLACE, START, STATE, ask_in, busy, call, close, country, drop, look, road, send, where,
)

# From 0 to 3 by the roads 0, 1, 2: 10, 1 and 30 minutes.
CHAIN = country(4, road(0, 1, 10), road(1, 2, 1), road(2, 3, 30))


class WhereCall(unittest.TestCase):
    def test_from_before_it_sets_out_until_it_is_there(self):
        minutes = (0, 49, 50, 51, 59, 60, 61, 62, 89, 90, 91, 5000, HUGE)
        found = ask_in(CHAIN, send(0, 3, 50), *[where(0, t) for t in minutes])
        self.assertEqual(found, [[0, 91], [-33], [-33], [0, 10], [0, 9], [0, 1], [1, 1], [2, 30], [2, 29], [2, 2],
                                 [2, 1], [-33], [-33], [-33]])

    def test_the_other_way(self):
        found = ask_in(CHAIN, send(3, 0, 0), *[where(0, t) for t in (0, 29, 30, 31, 40, 41)])
        self.assertEqual(found, [[0, 41], [2, 30], [2, 1], [1, 1], [0, 10], [0, 1], [-33]])

    def test_every_minute_of_a_way(self):
        found = ask_in(CHAIN, send(0, 3, 5), *[where(0, t) for t in range(60)])[1:]
        wished = [[-33]] * 5 + [[0, yet] for yet in range(10, 0, -1)] + [[1, 1]]
        wished += [[2, yet] for yet in range(30, 0, -1)] + [[-33]] * 14
        self.assertEqual(found, wished)

    def test_of_one_from_a_place_to_itself(self):
        self.assertEqual(ask_in(CHAIN, send(1, 1, 5), where(0, 4), where(0, 5), where(0, 6)),
                         [[0, 5], [-33], [-33], [-33]])

    def test_of_each_by_its_number(self):
        found = ask_in(CHAIN, send(0, 1, 0), send(2, 3, 0), send(0, 1, 10), where(0, 3), where(1, 3), where(2, 3),
                       where(2, 13))
        self.assertEqual(found[3:], [[0, 7], [2, 27], [-33], [0, 7]])

    def test_refusals(self):
        found = ask_in(CHAIN, where(0, 0), send(0, 1, 0), where(1, 0), where(8, 0), where(1, HUGE), drop(0),
                       where(0, 0))
        self.assertEqual(found, [[-2], [0, 10], [-2], [-2], [-2], [0], [-2]])


class BusyCall(unittest.TestCase):
    def test_two_on_the_same_road_in_different_minutes(self):
        found = ask_in(CHAIN, send(0, 1, 50), send(1, 0, 63), *[busy(0, t) for t in (49, 50, 59, 60, 62, 63, 72, 73)])
        self.assertEqual(found[2:], [[-33], [0], [0], [-33], [-33], [1], [1], [-33]])

    def test_one_behind_another_without_a_gap(self):
        found = ask_in(CHAIN, send(0, 1, 60), send(0, 1, 50), *[busy(0, t) for t in (49, 50, 59, 60, 69, 70)])
        self.assertEqual(found[2:], [[-33], [1], [1], [0], [0], [-33]])

    def test_a_road_with_none(self):
        found = ask_in(CHAIN, busy(0, 0), send(0, 1, 0), busy(1, 0), busy(2, 0), busy(0, HUGE))
        self.assertEqual(found, [[-33], [0, 10], [-33], [-33], [-33]])

    def test_each_road_of_a_way_in_its_minutes(self):
        found = ask_in(CHAIN, send(2, 2, 5), send(0, 3, 0), busy(0, 9), busy(0, 10), busy(1, 9), busy(1, 10),
                       busy(1, 11), busy(2, 10), busy(2, 11), busy(2, 40), busy(2, 41))
        self.assertEqual(found[2:], [[1], [-33], [-33], [1], [-33], [-33], [1], [1], [-33]])

    def test_several_convoys_in_one_minute_each_on_its_road(self):
        found = ask_in(CHAIN, send(2, 3, 0), send(0, 1, 0), send(1, 2, 0), busy(0, 0), busy(1, 0), busy(2, 0))
        self.assertEqual(found[3:], [[1], [2], [0]])

    def test_a_number_that_is_given_again(self):
        found = ask_in(CHAIN, send(0, 1, 0), send(0, 1, 10), send(0, 1, 20), drop(0), send(0, 1, 30), busy(0, 5),
                       busy(0, 15), busy(0, 25), busy(0, 35))
        self.assertEqual(found[3:], [[0], [0, 40], [-33], [1], [2], [0]])

    def test_the_first_when_all_eight_go_that_road(self):
        found = ask_in(CHAIN, *[send(0, 1, 10 * k) for k in range(8)], *[busy(0, 10 * k + 9) for k in range(9)])
        self.assertEqual(found[8:], [[k] for k in range(8)] + [[-33]])

    def test_the_least_number_though_it_came_last(self):
        # No calls bring two onto one road in one minute, so these two are put there by hand.
        network = Network()
        network.roads.append(Road(0, 1, 10, 100, 1000, 0, 0))
        network.convoys[5] = convoy_by(network, [0], 0)
        network.convoys[2] = convoy_by(network, [0], 3)
        self.assertEqual([convoy_on(network, 0, t) for t in (2, 3, 9, 10, 12, 13)], [5, 2, 2, 2, 2, None])

    def test_a_closed_road_is_busy_still(self):
        found = ask_in(CHAIN, send(0, 3, 0), close(2), busy(2, 11), busy(2, 40), busy(2, 41))
        self.assertEqual(found, [[0, 41], [0], [0], [0], [-33]])

    def test_refusals(self):
        found = ask_in(CHAIN, send(0, 1, 0), busy(3, 0), busy(14, 0), busy(3, HUGE))
        self.assertEqual(found[1:], [[-2], [-2], [-2]])


class LookCall(unittest.TestCase):
    def test_all_eight_numbers(self):
        built = country(3, road(2, 1, 7, 50, 600, 27, 64), road(0, 2, 200, 100, 1000, 200, 0), road(0, 1, 1, 0, 0, 0, 0))
        found = ask_in(built, look(0), look(1), look(2))
        self.assertEqual(found, [[7, 2, 1, 50, 600, 27, 64, 0], [200, 0, 2, 100, 1000, 200, 0, 0],
                                 [1, 0, 1, 0, 0, 0, 0, 0]])

    def test_behind_a_close(self):
        built = country(3, road(2, 1, 7, 50, 600, 27, 64), road(0, 1))
        found = ask_in(built, close(0), look(0), look(1), close(0), look(0), close(0, 0), look(0))
        shut, clear = [7, 2, 1, 50, 600, 27, 64, 1], [7, 2, 1, 50, 600, 27, 64, 0]
        self.assertEqual(found, [[0], shut, [10, 0, 1, 100, 1000, 0, 0, 0], [1], shut, [1], clear])

    def test_behind_a_widen(self):
        built = country(3, road(2, 1, 7, 50, 600, 27, 64))
        found = ask_in(built, call("widen", 0, 30, 64), look(0), call("widen", 0, 30, 200), look(0),
                       call("widen", 0, 29, 200), look(0), close(0), look(0))
        self.assertEqual(found, [[0], [7, 2, 1, 50, 600, 30, 64, 0], [0], [7, 2, 1, 50, 600, 30, 200, 0], [-22],
                                 [7, 2, 1, 50, 600, 30, 200, 0], [0], [7, 2, 1, 50, 600, 30, 200, 1]])

    def test_refusals(self):
        found = ask_in(country(2), look(0), road(0, 1), look(0), look(1), look(14))
        self.assertEqual(found, [[-2], [0], [10, 0, 1, 100, 1000, 0, 0, 0], [-2], [-2]])
        full = country(2, *[road(0, 1, 1 + k) for k in range(14)])
        self.assertEqual(ask_in(full, look(13), look(14)), [[14, 0, 1, 100, 1000, 0, 0, 0], [-2]])


class StateCall(unittest.TestCase):
    def test_it_counts_what_is_there(self):
        found = ask_in([START], STATE, PLACE, STATE, PLACE, PLACE, STATE, road(0, 1), road(1, 2), STATE, send(0, 2, 0),
                       STATE)
        self.assertEqual(found, [[0, 0, 0], [0], [1, 0, 0], [1], [2], [3, 0, 0], [0], [1], [3, 2, 0], [0, 20],
                                       [3, 2, 1]])

    def test_behind_a_drop(self):
        found = ask_in(CHAIN, send(0, 1, 0), send(0, 1, 10), STATE, drop(0), STATE, drop(0), STATE, drop(1), STATE)
        self.assertEqual(found[2:], [[4, 3, 2], [0], [4, 3, 1], [-2], [4, 3, 1], [10], [4, 3, 0]])

    def test_behind_a_second_start(self):
        self.assertEqual(ask_in(CHAIN, send(0, 1, 0), STATE, START, STATE), [[0, 10], [4, 3, 1], [0], [0, 0, 0]])

    def test_what_is_refused_does_not_count(self):
        full = country(8, *[road(0, 1)] * 14)
        found = ask_in(full, *[send(0, 0, 0)] * 8, PLACE, road(0, 1), send(0, 0, 0), STATE)
        self.assertEqual(found[8:], [[-28], [-28], [-28], [8, 14, 8]])

    def test_a_closed_road_counts(self):
        self.assertEqual(ask_in(CHAIN, close(0), STATE), [[0], [4, 3, 0]])


if __name__ == "__main__":
    unittest.main()
