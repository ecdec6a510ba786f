"""Point 1: start, place, road, close, widen, may."""

import unittest

from tests.asking import PLACE, START, ask, ask_in, call, close, country, may, most, road, way


def widen(r, a, b):
    return call("widen", r, a, b)


class StartAndPlace(unittest.TestCase):
    def test_places_are_numbered_from_0_up_to_8(self):
        self.assertEqual(ask(START, *[PLACE] * 10), [[0]] + [[k] for k in range(8)] + [[-28], [-28]])

    def test_a_refused_place_is_none(self):
        self.assertEqual(ask_in(country(8), road(7, 0), road(8, 0), PLACE, road(8, 0)), [[0], [-2], [-28], [-2]])

    def test_a_second_start_leaves_nothing(self):
        found = ask_in(country(3, road(0, 1), road(1, 2)), close(0), START, close(0), way(0, 0), PLACE, PLACE,
                       way(0, 1), road(0, 1), way(0, 1))
        self.assertEqual(found, [[0], [0], [-2], [-2], [0], [1], [-33], [0], [10, 0]])

    def test_a_second_start_makes_room(self):
        full = country(8, *[road(0, 1)] * 14)
        found = ask_in(full, PLACE, road(0, 1), START, *[PLACE] * 9, *[road(0, 1)] * 15)
        self.assertEqual(found[:3], [[-28], [-28], [0]])
        self.assertEqual(found[3:12], [[k] for k in range(8)] + [[-28]])
        self.assertEqual(found[12:], [[k] for k in range(14)] + [[-28]])


class RoadCall(unittest.TestCase):
    def one(self, *numbers):
        return ask_in(country(2), call("road", *numbers))[0]

    def test_roads_are_numbered_from_0_up_to_14(self):
        found = ask_in(country(2), *[road(k % 2, 1 - k % 2) for k in range(16)])
        self.assertEqual(found, [[k] for k in range(14)] + [[-28], [-28]])

    def test_no_such_place(self):
        self.assertEqual(self.one(2, 0, 10, 5, 5, 5, 5), [-2])
        self.assertEqual(self.one(0, 2, 10, 5, 5, 5, 5), [-2])
        self.assertEqual(self.one(2, 2, 10, 5, 5, 5, 5), [-2])
        self.assertEqual(ask(START, road(0, 0))[1], [-2])

    def test_from_a_place_to_itself(self):
        self.assertEqual(self.one(0, 0, 10, 5, 5, 5, 5), [-22])
        self.assertEqual(self.one(1, 1, 10, 5, 5, 5, 5), [-22])

    def test_what_is_at_its_limit_is_taken(self):
        self.assertEqual(self.one(0, 1, 1, 0, 0, 0, 0), [0])
        self.assertEqual(self.one(1, 0, 200, 100, 1000, 200, 200), [0])

    def test_what_is_beyond_its_limit_is_refused(self):
        for wrong in ((0, 100, 1000, 200, 200), (201, 100, 1000, 200, 200), (200, 101, 1000, 200, 200),
                      (200, 100, 1001, 200, 200), (200, 100, 1000, 201, 200), (200, 100, 1000, 200, 201)):
            with self.subTest(wrong=wrong):
                self.assertEqual(self.one(0, 1, *wrong), [-22])

    def test_a_refused_road_is_none(self):
        self.assertEqual(ask_in(country(2), road(0, 2), road(0, 0), road(0, 1, 0), road(0, 1), close(1)),
                         [[-2], [-22], [-22], [0], [-2]])

    def test_the_first_named_refusal_is_answered(self):
        full = country(2, *[road(0, 1)] * 14)
        found = ask_in(full, road(0, 2, minutes=0), road(2, 0), road(0, 0), road(0, 1, a=201), road(0, 1))
        self.assertEqual(found, [[-2], [-2], [-22], [-22], [-28]])


class CloseCall(unittest.TestCase):
    def test_it_tells_whether_it_was_closed(self):
        found = ask_in(country(2, road(0, 1)), close(0, 0), close(0, 1), close(0, 1), close(0, 0), close(0, 0))
        self.assertEqual(found, [[0], [0], [1], [1], [0]])

    def test_only_that_road_is_closed_and_opened_again(self):
        found = ask_in(country(2, road(0, 1), road(0, 1)), close(1), may(0), may(1), close(1, 0), may(0), may(1))
        self.assertEqual(found, [[0], [0], [4], [1], [0], [0]])

    def test_refusals(self):
        found = ask_in(country(2, road(0, 1)), close(1, 1), close(1, 2), close(0, 2), may(0), close(0, 1))
        self.assertEqual(found, [[-2], [-2], [-22], [0], [0]])


class WidenCall(unittest.TestCase):
    def test_the_bend_is_so_wide(self):
        found = ask_in(country(2, road(0, 1, a=27, b=60)), may(0, 125), widen(0, 27, 64), may(0, 125), may(0, 126),
                       widen(0, 54, 128), may(0, 250), may(0, 251))
        self.assertEqual(found, [[3], [0], [0], [3], [0], [0], [3]])

    def test_to_the_same_and_to_200(self):
        found = ask_in(country(2, road(0, 1, a=27, b=64)), widen(0, 27, 64), may(0, 125), may(0, 126),
                       widen(0, 200, 200), widen(0, 200, 200))
        self.assertEqual(found, [[0], [0], [3], [0], [0]])

    def test_to_less_on_either_side(self):
        found = ask_in(country(2, road(0, 1, a=27, b=64)), widen(0, 26, 64), widen(0, 27, 63), widen(0, 64, 27),
                       widen(0, 26, 200), widen(0, 200, 63), widen(0, 0, 0), may(0, 125), may(0, 126))
        self.assertEqual(found, [[-22]] * 6 + [[0], [3]])

    def test_beyond_200(self):
        found = ask_in(country(2, road(0, 1, a=27, b=64)), widen(0, 201, 64), widen(0, 27, 201), may(0, 126))
        self.assertEqual(found, [[-22], [-22], [3]])

    def test_less_is_measured_against_the_last_widening(self):
        found = ask_in(country(2, road(0, 1, a=10, b=10)), widen(0, 50, 60), widen(0, 49, 60), widen(0, 50, 59),
                       widen(0, 50, 60))
        self.assertEqual(found, [[0], [-22], [-22], [0]])

    def test_a_road_without_a_bend(self):
        found = ask_in(country(2, road(0, 1)), widen(0, 5, 5), widen(0, 0, 0), may(0, 300))
        self.assertEqual(found, [[-22], [-22], [0]])

    def test_a_bend_with_one_width_of_0(self):
        for a, b in ((0, 20), (20, 0)):
            found = ask_in(country(2, road(0, 1, a=a, b=b)), may(0, 20), may(0, 21), widen(0, a, b),
                           widen(0, 20, 20), may(0, 56), may(0, 57))
            self.assertEqual(found, [[0], [3], [0], [0], [0], [3]])

    def test_the_narrowest_bends(self):
        for a, b in ((0, 1), (1, 0)):
            found = ask_in(country(2, road(0, 1, a=a, b=b)), may(0, 1), may(0, 2), widen(0, 1, 1), may(0, 2))
            self.assertEqual(found, [[0], [3], [0], [0]])

    def test_no_such_road(self):
        found = ask_in(country(2, road(0, 1)), widen(1, 5, 5), widen(1, 201, 5))
        self.assertEqual(found, [[-2], [-2]])

    def test_a_closed_road_is_widened_too(self):
        found = ask_in(country(2, road(0, 1, a=5, b=5)), close(0), widen(0, 27, 64), close(0, 0), may(0, 125))
        self.assertEqual(found, [[0], [0], [1], [0]])


class MayCall(unittest.TestCase):
    LOW = road(0, 1, high=40, heavy=400, a=27, b=64)

    def one(self, *numbers):
        return ask_in(country(2, self.LOW), may(*numbers))[0]

    def test_a_load_at_every_limit_may_go(self):
        self.assertEqual(self.one(0, 125, 40, 400), [0])
        self.assertEqual(self.one(0, 0, 0, 0), [0])
        self.assertEqual(ask_in(country(2, road(0, 1)), may(0, 300, 100, 1000)), [[0]])

    def test_each_reason(self):
        self.assertEqual(self.one(0, 125, 41, 400), [1])
        self.assertEqual(self.one(0, 125, 40, 401), [2])
        self.assertEqual(self.one(0, 126, 40, 400), [3])
        self.assertEqual(ask_in(country(2, self.LOW), close(0), may(0, 125, 40, 400)), [[0], [4]])

    def test_the_first_reason_that_holds(self):
        self.assertEqual(self.one(0, 126, 40, 401), [2])
        self.assertEqual(self.one(0, 126, 41, 400), [1])
        self.assertEqual(self.one(0, 125, 41, 401), [1])
        self.assertEqual(self.one(0, 126, 41, 401), [1])
        found = ask_in(country(2, self.LOW), close(0), may(0, 126, 41, 401), may(0, 125, 41, 400),
                       may(0, 125, 40, 401), may(0, 126, 40, 400))
        self.assertEqual(found, [[0], [4], [4], [4], [4]])

    def test_refusals(self):
        self.assertEqual(self.one(1, 5, 5, 5), [-2])
        self.assertEqual(self.one(1, 301, 101, 1001), [-2])
        self.assertEqual(self.one(0, 301, 5, 5), [-22])
        self.assertEqual(self.one(0, 5, 101, 5), [-22])
        self.assertEqual(self.one(0, 5, 5, 1001), [-22])

    def test_a_closed_road_still_refuses_what_is_not_as_told(self):
        self.assertEqual(ask_in(country(2, self.LOW), close(0), may(0, 301, 5, 5)), [[0], [-22]])

    def test_a_limit_of_0(self):
        found = ask_in(country(2, road(0, 1, high=0, heavy=0)), may(0, 300, 0, 0), may(0, 0, 1, 0), may(0, 0, 0, 1))
        self.assertEqual(found, [[0], [1], [2]])

    def test_a_bend_from_its_other_side(self):
        for a, b in ((27, 64), (64, 27)):
            found = ask_in(country(2, road(0, 1, a=a, b=b)), may(0, 125), may(0, 126), way(0, 1, 125), way(1, 0, 125),
                           way(1, 0, 126), most(0, 1), most(1, 0))
            self.assertEqual(found, [[0], [3], [10, 0], [10, 0], [-33], [125], [125]])


if __name__ == "__main__":
    unittest.main()
