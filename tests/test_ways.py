"""Point 3, way and most; and what holds of them (b)."""

import unittest

from tests.asking import (
    START, Numbers, all_ways, ask, ask_in, call, close, country, may, most, road, thrown_country, way,
)


class WayCall(unittest.TestCase):
    def test_one_road_either_way(self):
        self.assertEqual(ask_in(country(2, road(0, 1, 7)), way(0, 1), way(1, 0)), [[7, 0], [7, 0]])

    def test_roads_stand_in_the_order_they_are_gone(self):
        built = country(4, road(2, 3, 4), road(0, 1, 1), road(2, 1, 2))
        self.assertEqual(ask_in(built, way(0, 3), way(3, 0), way(0, 2)), [[7, 1, 2, 0], [7, 0, 2, 1], [3, 1, 2]])

    def test_none(self):
        self.assertEqual(ask_in(country(3, road(0, 1)), way(0, 2), way(2, 0)), [[-33], [-33]])
        self.assertEqual(ask_in(country(2), way(0, 1)), [[-33]])

    def test_from_a_place_to_itself(self):
        found = ask_in(country(2, road(0, 1)), way(0, 0), way(1, 1, 300, 100, 1000), close(0), way(1, 1))
        self.assertEqual(found, [[0], [0], [0], [0]])

    def test_refusals(self):
        built = country(2, road(0, 1))
        for numbers, refusal in (((2, 0, 5, 5, 5), -2), ((0, 2, 5, 5, 5), -2), ((2, 2, 5, 5, 5), -2),
                                 ((0, 2, 301, 101, 1001), -2), ((0, 1, 301, 5, 5), -22), ((0, 1, 5, 101, 5), -22),
                                 ((0, 1, 5, 5, 1001), -22), ((1, 1, 301, 5, 5), -22)):
            with self.subTest(numbers=numbers):
                self.assertEqual(ask_in(built, call("way", *numbers)), [[refusal]])
        self.assertEqual(ask(START, way(0, 0))[1], [-2])

    def test_not_as_told_comes_before_none(self):
        self.assertEqual(ask_in(country(2), way(0, 1, 301)), [[-22]])

    def test_the_fewest_minutes_though_more_roads(self):
        built = country(4, road(0, 3, 13), road(0, 1, 4), road(1, 2, 4), road(2, 3, 4))
        self.assertEqual(ask_in(built, way(0, 3), way(3, 0)), [[12, 1, 2, 3], [12, 3, 2, 1]])

    def test_as_quick_with_fewer_roads(self):
        built = country(4, road(0, 1, 4), road(1, 2, 4), road(2, 3, 4), road(0, 3, 12))
        self.assertEqual(ask_in(built, way(0, 3), way(3, 0)), [[12, 3], [12, 3]])

    def test_as_quick_with_fewer_roads_on_its_first_part(self):
        built = country(4, road(0, 1, 2), road(1, 2, 2), road(2, 3, 5), road(0, 2, 4))
        self.assertEqual(ask_in(built, way(0, 3)), [[9, 3, 2]])

    def test_as_quick_with_as_many_roads(self):
        built = country(4, road(0, 2, 5), road(0, 1, 5), road(1, 3, 5), road(2, 3, 5))
        self.assertEqual(ask_in(built, way(0, 3), way(3, 0)), [[10, 0, 3], [10, 2, 1]])

    def test_the_lesser_road_where_two_first_differ(self):
        built = country(5, road(0, 1, 3), road(1, 2, 9), road(1, 3, 1), road(3, 4, 9), road(2, 4, 1))
        self.assertEqual(ask_in(built, way(0, 4), way(4, 0)), [[13, 0, 1, 4], [13, 3, 2, 0]])

    def test_the_lesser_road_first_though_the_last_is_greater(self):
        built = country(4, road(2, 3, 5), road(0, 1, 5), road(0, 2, 5), road(1, 3, 5))
        self.assertEqual(ask_in(built, way(0, 3)), [[10, 1, 3]])

    def test_parallel_roads(self):
        built = country(2, road(0, 1, 8), road(1, 0, 5), road(0, 1, 5), road(1, 0, 6))
        self.assertEqual(ask_in(built, way(0, 1), way(1, 0), close(1), way(0, 1), close(2), way(0, 1), close(3),
                                way(0, 1), close(0), way(0, 1)),
                         [[5, 1], [5, 1], [0], [5, 2], [0], [6, 3], [0], [8, 0], [0], [-33]])

    def test_a_closed_road_is_gone_round(self):
        built = country(3, road(0, 1, 1), road(0, 2, 9), road(2, 1, 9))
        self.assertEqual(ask_in(built, close(0), way(0, 1), close(1), way(0, 1), close(0, 0), way(0, 1)),
                         [[0], [18, 1, 2], [0], [-33], [1], [1, 0]])

    def test_each_measure_of_the_load_counts(self):
        built = country(2, road(0, 1, 1, high=40), road(0, 1, 2, heavy=400), road(0, 1, 3, a=27, b=64), road(0, 1, 4))
        found = ask_in(built, way(0, 1, 300, 40, 1000), way(0, 1, 300, 41, 400), way(0, 1, 125, 41, 401),
                       way(0, 1, 126, 41, 401))
        self.assertEqual(found, [[1, 0], [2, 1], [3, 2], [4, 3]])

    def test_a_widened_bend_is_gone(self):
        built = country(2, road(0, 1, 3, a=27, b=60))
        self.assertEqual(ask_in(built, way(0, 1, 125), call("widen", 0, 27, 64), way(0, 1, 125)), [[-33], [0], [3, 0]])

    def test_the_longest_chain(self):
        built = country(8, *[road(k, k + 1, 200) for k in range(7)])
        self.assertEqual(ask_in(built, way(0, 7), way(7, 0)),
                         [[1400, 0, 1, 2, 3, 4, 5, 6], [1400, 6, 5, 4, 3, 2, 1, 0]])


class MostCall(unittest.TestCase):
    def test_without_a_bend_it_is_300(self):
        self.assertEqual(ask_in(country(2, road(0, 1)), most(0, 1), way(0, 1, 300)), [[300], [10, 0]])

    def test_the_bend_on_the_way_counts(self):
        built = country(3, road(0, 1, a=27, b=64), road(1, 2, a=54, b=128))
        self.assertEqual(ask_in(built, most(0, 1), most(1, 2), most(0, 2), most(2, 0)), [[125], [250], [125], [125]])

    def test_the_way_that_lets_the_longest_through(self):
        built = country(3, road(0, 2, 1, a=10, b=10), road(0, 1, 200, a=54, b=128), road(1, 2, 200, a=27, b=64))
        self.assertEqual(ask_in(built, most(0, 2), way(0, 2, 28), way(0, 2, 29), way(0, 2, 125), way(0, 2, 126)),
                         [[125], [1, 0], [400, 1, 2], [400, 1, 2], [-33]])

    def test_height_and_weight_shut_roads(self):
        built = country(2, road(0, 1, high=40), road(0, 1, heavy=400, a=54, b=128), road(0, 1, a=27, b=64))
        found = ask_in(built, most(0, 1, 40, 1000), most(0, 1, 41, 400), most(0, 1, 41, 401), close(0), close(1),
                       most(0, 1), close(2), most(0, 1))
        self.assertEqual(found, [[300], [250], [125], [0], [0], [125], [0], [-33]])

    def test_a_bend_of_narrow_widths(self):
        self.assertEqual(ask_in(country(2, road(0, 1, a=0, b=1)), most(0, 1)), [[1]])
        self.assertEqual(ask_in(country(2, road(0, 1, a=200, b=200)), most(0, 1)), [[300]])

    def test_not_with_any_such_load(self):
        built = country(3, road(0, 1, high=40, heavy=400))
        self.assertEqual(ask_in(built, most(0, 2), most(0, 1, 41), most(0, 1, 0, 401), most(0, 1, 40, 400)),
                         [[-33], [-33], [-33], [300]])

    def test_refusals(self):
        built = country(2, road(0, 1))
        for numbers, refusal in (((2, 0, 5, 5), -2), ((0, 2, 5, 5), -2), ((2, 2, 5, 5), -2), ((0, 2, 101, 1001), -2),
                                 ((0, 0, 5, 5), -22), ((1, 1, 5, 5), -22), ((0, 1, 101, 5), -22),
                                 ((0, 1, 5, 1001), -22), ((0, 1, 100, 1000), 300)):
            with self.subTest(numbers=numbers):
                self.assertEqual(ask_in(built, call("most", *numbers)), [[refusal]])

    def test_not_as_told_comes_before_none(self):
        self.assertEqual(ask_in(country(2), most(0, 0), most(0, 1, 101), most(0, 1)), [[-22], [-22], [-33]])


class WhatHolds(unittest.TestCase):
    def test_no_way_is_quicker_than_the_one_that_is_told(self):
        thrown = Numbers(1)
        for k in range(150):
            places, roads = thrown_country(thrown)
            built = country(places, *[road(*numbers) for numbers in roads])
            load = (thrown.below(200), thrown.below(101), thrown.below(1001))
            allowed = [r for r, answer in enumerate(ask_in(built, *[may(r, *load) for r in range(len(roads))]))
                       if answer == [0]]
            pairs = [(p, q) for p in range(places) for q in range(places)]
            for (p, q), answer in zip(pairs, ask_in(built, *[way(p, q, *load) for p, q in pairs])):
                ways = all_ways(roads, p, q, allowed)
                best = min(ways) if ways else None
                self.assertEqual(answer, [-33] if best is None else [best[0]] + best[2], (roads, load, p, q))

    def test_with_a_longer_load_than_the_longest_there_is_none(self):
        thrown = Numbers(2)
        for k in range(150):
            places, roads = thrown_country(thrown)
            built = country(places, *[road(*numbers) for numbers in roads])
            size = (thrown.below(101), thrown.below(1001))
            pairs = [(p, q) for p in range(places) for q in range(places) if p != q]
            for (p, q), (length,) in zip(pairs, ask_in(built, *[most(p, q, *size) for p, q in pairs])):
                tried = [at for at in (length, length + 1) if 0 <= at <= 300]
                found = [answer != [-33] for answer in ask_in(built, *[way(p, q, at, *size) for at in tried])]
                wished = [at <= length for at in tried] if length >= 0 else []
                self.assertEqual(found, wished, (roads, size, p, q))
                if length == -33:
                    self.assertEqual(ask_in(built, way(p, q, 0, *size)), [[-33]])


if __name__ == "__main__":
    unittest.main()
