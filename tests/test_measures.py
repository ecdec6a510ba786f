"""Point 3, heaviest, highest and needs."""

import unittest

from tests.asking import (
    START, Numbers, all_ways, ask, ask_in, call, close, country, heaviest, highest, may, needs, road, thrown_country,
    way,
)


class HeaviestCall(unittest.TestCase):
    def test_one_road_either_way(self):
        self.assertEqual(ask_in(country(2, road(0, 1, heavy=400)), heaviest(0, 1), heaviest(1, 0)), [[400], [400]])

    def test_the_weakest_road_of_the_strongest_way(self):
        built = country(3, road(0, 2, 1, heavy=100), road(0, 1, 200, heavy=700), road(1, 2, 200, heavy=600))
        found = ask_in(built, heaviest(0, 2), heaviest(2, 0), way(0, 2, weight=600), way(0, 2, weight=601))
        self.assertEqual(found, [[600], [600], [400, 1, 2], [-33]])

    def test_length_and_height_shut_roads(self):
        built = country(2, road(0, 1, heavy=900, high=40), road(0, 1, heavy=800, a=27, b=64), road(0, 1, heavy=70))
        found = ask_in(built, heaviest(0, 1, 300, 40), heaviest(0, 1, 125, 41), heaviest(0, 1, 126, 41))
        self.assertEqual(found, [[900], [800], [70]])

    def test_a_limit_of_0(self):
        found = ask_in(country(2, road(0, 1, heavy=0)), heaviest(0, 1), way(0, 1, weight=1))
        self.assertEqual(found, [[0], [-33]])
        self.assertEqual(ask_in(country(3, road(0, 1, heavy=0), road(1, 2, heavy=500)), heaviest(0, 2)), [[0]])

    def test_the_greatest_limit(self):
        self.assertEqual(ask_in(country(2, road(0, 1, heavy=1000)), heaviest(0, 1, 300, 100)), [[1000]])

    def test_a_closed_roads_limit(self):
        for limit in (0, 399, 400, 401, 1000):
            built = country(2, road(0, 1, heavy=400), road(0, 1, heavy=limit))
            self.assertEqual(ask_in(built, close(1), heaviest(0, 1)), [[0], [400]], limit)

    def test_a_limit_of_a_road_that_leads_elsewhere(self):
        for limit in (300, 500):
            built = country(4, road(0, 1, heavy=400), road(2, 3, heavy=limit), road(1, 2, heavy=limit))
            self.assertEqual(ask_in(built, heaviest(0, 1)), [[400]], limit)

    def test_like_limits(self):
        built = country(3, road(0, 1, heavy=400), road(0, 1, heavy=400), road(1, 2, heavy=400))
        self.assertEqual(ask_in(built, heaviest(0, 1), heaviest(0, 2), close(0), heaviest(0, 2)),
                         [[400], [400], [0], [400]])

    def test_not_with_any_such_load(self):
        built = country(3, road(0, 1, high=40, a=27, b=64))
        found = ask_in(built, heaviest(0, 2), heaviest(0, 1, 126), heaviest(0, 1, 125, 41), heaviest(0, 1, 125, 40),
                       close(0), heaviest(0, 1, 125, 40))
        self.assertEqual(found, [[-33], [-33], [-33], [1000], [0], [-33]])
        self.assertEqual(ask_in(country(2), heaviest(0, 1)), [[-33]])

    def test_refusals(self):
        built = country(2, road(0, 1))
        for numbers, answer in (((2, 0, 5, 5), -2), ((0, 2, 5, 5), -2), ((2, 2, 5, 5), -2), ((0, 2, 301, 101), -2),
                                ((0, 0, 5, 5), -22), ((1, 1, 5, 5), -22), ((0, 1, 301, 5), -22),
                                ((0, 1, 5, 101), -22), ((0, 1, 300, 100), 1000)):
            with self.subTest(numbers=numbers):
                self.assertEqual(ask_in(built, call("heaviest", *numbers)), [[answer]])
        self.assertEqual(ask(START, heaviest(0, 0))[1], [-2])

    def test_not_as_told_comes_before_none(self):
        self.assertEqual(ask_in(country(2), heaviest(0, 0), heaviest(0, 1, 301), heaviest(0, 1, 0, 101)), [[-22]] * 3)


class HighestCall(unittest.TestCase):
    def test_one_road_either_way(self):
        self.assertEqual(ask_in(country(2, road(0, 1, high=40)), highest(0, 1), highest(1, 0)), [[40], [40]])

    def test_the_lowest_road_of_the_highest_way(self):
        built = country(3, road(0, 2, 1, high=10), road(0, 1, 200, high=70), road(1, 2, 200, high=60))
        found = ask_in(built, highest(0, 2), highest(2, 0), way(0, 2, height=60), way(0, 2, height=61))
        self.assertEqual(found, [[60], [60], [400, 1, 2], [-33]])

    def test_length_and_weight_shut_roads(self):
        built = country(2, road(0, 1, high=90, heavy=400), road(0, 1, high=80, a=27, b=64), road(0, 1, high=7))
        found = ask_in(built, highest(0, 1, 300, 400), highest(0, 1, 125, 401), highest(0, 1, 126, 401))
        self.assertEqual(found, [[90], [80], [7]])

    def test_a_limit_of_0(self):
        found = ask_in(country(2, road(0, 1, high=0)), highest(0, 1), way(0, 1, height=1))
        self.assertEqual(found, [[0], [-33]])
        self.assertEqual(ask_in(country(3, road(0, 1, high=0), road(1, 2, high=50)), highest(0, 2)), [[0]])

    def test_the_greatest_limit(self):
        self.assertEqual(ask_in(country(2, road(0, 1, high=100)), highest(0, 1, 300, 1000)), [[100]])

    def test_a_closed_roads_limit(self):
        for limit in (0, 39, 40, 41, 100):
            built = country(2, road(0, 1, high=40), road(0, 1, high=limit))
            self.assertEqual(ask_in(built, close(1), highest(0, 1)), [[0], [40]], limit)

    def test_a_limit_of_a_road_that_leads_elsewhere(self):
        for limit in (30, 50):
            built = country(4, road(0, 1, high=40), road(2, 3, high=limit), road(1, 2, high=limit))
            self.assertEqual(ask_in(built, highest(0, 1)), [[40]], limit)

    def test_like_limits(self):
        built = country(3, road(0, 1, high=40), road(0, 1, high=40), road(1, 2, high=40))
        self.assertEqual(ask_in(built, highest(0, 1), highest(0, 2), close(0), highest(0, 2)), [[40], [40], [0], [40]])

    def test_not_with_any_such_load(self):
        built = country(3, road(0, 1, heavy=400, a=27, b=64))
        found = ask_in(built, highest(0, 2), highest(0, 1, 126), highest(0, 1, 125, 401), highest(0, 1, 125, 400),
                       close(0), highest(0, 1, 125, 400))
        self.assertEqual(found, [[-33], [-33], [-33], [100], [0], [-33]])
        self.assertEqual(ask_in(country(2), highest(0, 1)), [[-33]])

    def test_refusals(self):
        built = country(2, road(0, 1))
        for numbers, answer in (((2, 0, 5, 5), -2), ((0, 2, 5, 5), -2), ((2, 2, 5, 5), -2), ((0, 2, 301, 1001), -2),
                                ((0, 0, 5, 5), -22), ((1, 1, 5, 5), -22), ((0, 1, 301, 5), -22),
                                ((0, 1, 5, 1001), -22), ((0, 1, 300, 1000), 100)):
            with self.subTest(numbers=numbers):
                self.assertEqual(ask_in(built, call("highest", *numbers)), [[answer]])
        self.assertEqual(ask(START, highest(0, 0))[1], [-2])

    def test_not_as_told_comes_before_none(self):
        self.assertEqual(ask_in(country(2), highest(0, 0), highest(0, 1, 301), highest(0, 1, 0, 1001)), [[-22]] * 3)


class NeedsCall(unittest.TestCase):
    def test_none_with_two_ways_beside_each_other(self):
        self.assertEqual(ask_in(country(2, road(0, 1, 5), road(0, 1, 9)), needs(0, 1)), [[0]])
        ring = country(4, road(0, 1), road(1, 3), road(0, 2), road(2, 3))
        self.assertEqual(ask_in(ring, needs(0, 3), needs(1, 2), needs(3, 0)), [[0], [0], [0]])

    def test_one(self):
        self.assertEqual(ask_in(country(2, road(0, 1)), needs(0, 1), needs(1, 0)), [[1, 0], [1, 0]])
        built = country(3, road(0, 1), road(1, 2), road(0, 1))
        self.assertEqual(ask_in(built, needs(0, 2), needs(0, 1), needs(2, 0)), [[1, 1], [0], [1, 1]])

    def test_several_rising_though_gone_in_another_order(self):
        built = country(4, road(2, 3), road(1, 2), road(0, 1))
        found = ask_in(built, way(0, 3), needs(0, 3), needs(3, 0))
        self.assertEqual(found, [[30, 2, 1, 0], [3, 0, 1, 2], [3, 0, 1, 2]])

    def test_a_ring_between_two_needed_roads(self):
        built = country(5, road(3, 4), road(1, 2), road(1, 2), road(0, 1), road(2, 3))
        self.assertEqual(ask_in(built, needs(0, 4)), [[3, 0, 3, 4]])

    def test_the_quickest_is_not_needed_for_that(self):
        built = country(3, road(0, 2, 1), road(0, 1, 200), road(1, 2, 200))
        self.assertEqual(ask_in(built, needs(0, 2)), [[0]])

    def test_all_seven_of_the_longest_chain(self):
        built = country(8, *[road(k, k + 1, 200) for k in range(7)])
        self.assertEqual(ask_in(built, needs(0, 7)), [[7, 0, 1, 2, 3, 4, 5, 6]])

    def test_from_a_place_to_itself(self):
        found = ask_in(country(2, road(0, 1)), needs(0, 0), needs(1, 1, 300, 100, 1000), close(0), needs(1, 1))
        self.assertEqual(found, [[0], [0], [0], [0]])

    def test_a_road_that_is_closed_already(self):
        built = country(2, road(0, 1), road(0, 1))
        found = ask_in(built, needs(0, 1), close(0), needs(0, 1), close(0, 0), close(1), needs(0, 1), close(0),
                       needs(0, 1))
        self.assertEqual(found, [[0], [0], [1, 1], [1], [0], [1, 0], [0], [-33]])

    def test_roads_that_the_load_may_not_go(self):
        built = country(2, road(0, 1, high=40), road(0, 1, heavy=400), road(0, 1, a=27, b=64), road(0, 1))
        found = ask_in(built, needs(0, 1, 126, 41, 401), needs(0, 1, 125, 41, 401), needs(0, 1, 126, 40, 401),
                       needs(0, 1, 126, 41, 400), close(3), needs(0, 1, 125, 41, 401), needs(0, 1, 126, 41, 401))
        self.assertEqual(found, [[1, 3], [0], [0], [0], [0], [1, 2], [-33]])

    def test_asking_closes_nothing(self):
        built = country(3, road(0, 1), road(1, 2))
        found = ask_in(built, needs(0, 2), way(0, 2), may(0), may(1), needs(0, 2))
        self.assertEqual(found, [[2, 0, 1], [20, 0, 1], [0], [0], [2, 0, 1]])

    def test_refusals(self):
        built = country(2, road(0, 1))
        for numbers, refusal in (((2, 0, 5, 5, 5), -2), ((0, 2, 5, 5, 5), -2), ((2, 2, 5, 5, 5), -2),
                                 ((0, 2, 301, 101, 1001), -2), ((0, 1, 301, 5, 5), -22), ((0, 1, 5, 101, 5), -22),
                                 ((0, 1, 5, 5, 1001), -22), ((1, 1, 301, 5, 5), -22)):
            with self.subTest(numbers=numbers):
                self.assertEqual(ask_in(built, call("needs", *numbers)), [[refusal]])
        self.assertEqual(ask_in(country(2), needs(0, 1, 301), needs(0, 1)), [[-22], [-33]])
        self.assertEqual(ask(START, needs(0, 0))[1], [-2])


class WhatHolds(unittest.TestCase):
    def test_with_a_greater_measure_than_the_greatest_there_is_none(self):
        thrown = Numbers(3)
        for k in range(60):
            places, roads = thrown_country(thrown)
            built = country(places, *[road(*numbers) for numbers in roads])
            length, height, weight = thrown.below(200), thrown.below(101), thrown.below(1001)
            pairs = [(p, q) for p in range(places) for q in range(places) if p != q]
            for p, q in pairs:
                (heavy,), (high,) = ask_in(built, heaviest(p, q, length, height), highest(p, q, length, weight))
                loads = [(length, height, at) for at in range(1001) if at in (0, heavy, heavy + 1)]
                loads += [(length, at, weight) for at in range(101) if at in (0, high, high + 1)]
                found = [answer != [-33] for answer in ask_in(built, *[way(p, q, *load) for load in loads])]
                wished = [at <= heavy for at in range(1001) if at in (0, heavy, heavy + 1)]
                wished += [at <= high for at in range(101) if at in (0, high, high + 1)]
                self.assertEqual(found, wished, (roads, p, q, length, height, weight))

    def test_what_is_needed_lies_on_every_way(self):
        thrown = Numbers(4)
        for k in range(60):
            places, roads = thrown_country(thrown)
            built = country(places, *[road(*numbers) for numbers in roads])
            load = (thrown.below(100), thrown.below(80), thrown.below(800))
            allowed = [r for r, answer in enumerate(ask_in(built, *[may(r, *load) for r in range(len(roads))]))
                       if answer == [0]]
            pairs = [(p, q) for p in range(places) for q in range(places)]
            for (p, q), answer in zip(pairs, ask_in(built, *[needs(p, q, *load) for p, q in pairs])):
                ways = [set(gone) for minutes, count, gone in all_ways(roads, p, q, allowed)]
                needed = sorted(set.intersection(*ways)) if ways else None
                self.assertEqual(answer, [-33] if needed is None else [len(needed)] + needed, (roads, load, p, q))


if __name__ == "__main__":
    unittest.main()
