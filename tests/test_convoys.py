"""Point 4: soonest, send, drop, convoy."""

import unittest

from tests.asking import (
    PLACE, START, STATE, ask, ask_in, busy, call, close, convoy, country, drop, road, send, soonest, way, where,
)

# From 0 to 3 by the roads 0, 1, 2: 10, 20 and 30 minutes.
CHAIN = country(4, road(0, 1, 10), road(1, 2, 20), road(2, 3, 30))

REFUSED = (
    ((2, 0, 5, 5, 5, 7), -2), ((0, 2, 5, 5, 5, 7), -2), ((2, 2, 5, 5, 5, 7), -2), ((0, 2, 301, 5, 5, 5001), -2),
    ((0, 1, 301, 5, 5, 7), -22), ((0, 1, 5, 101, 5, 7), -22), ((0, 1, 5, 5, 1001, 7), -22),
    ((0, 1, 5, 5, 5, 5001), -22), ((1, 1, 5, 5, 5, 5001), -22), ((1, 1, 301, 5, 5, 7), -22),
)


class SoonestCall(unittest.TestCase):
    def test_with_no_convoy_there(self):
        self.assertEqual(ask_in(CHAIN, soonest(0, 3, 7), soonest(3, 0, 0), soonest(1, 2, 100)),
                         [[7, 67], [0, 60], [100, 120]])

    def test_one_in_the_way_on_the_first_road(self):
        found = ask_in(CHAIN, send(0, 1, 50), soonest(0, 3, 45), soonest(0, 3, 50), soonest(0, 1, 59),
                       soonest(0, 1, 41))
        self.assertEqual(found, [[0, 60], [60, 120], [60, 120], [60, 70], [60, 70]])

    def test_one_in_the_way_on_a_later_road(self):
        # On road 2 from 50 to 80; from 0 that road is come onto 30 minutes behind the start.
        found = ask_in(CHAIN, send(2, 3, 50), soonest(0, 3, 0), soonest(0, 3, 1), soonest(0, 3, 49), soonest(0, 3, 50),
                       soonest(0, 2, 20))
        self.assertEqual(found, [[0, 80], [50, 110], [50, 110], [50, 110], [50, 110], [20, 50]])
        found = ask_in(CHAIN, send(2, 3, 60), soonest(0, 3, 0), soonest(0, 3, 1))
        self.assertEqual(found, [[0, 90], [0, 60], [60, 120]])

    def test_one_that_comes_from_the_other_side(self):
        # Road 2 is taken from 0 to 30, road 1 to 50, road 0 to 60. Passing each other at a place is no meeting.
        found = ask_in(CHAIN, send(3, 0, 0), soonest(0, 3, 0), soonest(0, 3, 1), soonest(0, 3, 41), soonest(0, 1, 40),
                       soonest(0, 1, 41))
        self.assertEqual(found, [[0, 60], [0, 60], [40, 100], [60, 120], [40, 50], [60, 70]])

    def test_in_the_very_minute_in_which_another_leaves_the_road(self):
        found = ask_in(CHAIN, send(0, 1, 50), soonest(0, 1, 60), soonest(1, 0, 60), soonest(0, 1, 40), soonest(1, 0, 40))
        self.assertEqual(found, [[0, 60], [60, 70], [60, 70], [40, 50], [40, 50]])

    def test_a_gap_that_is_too_short_and_one_that_is_just_long_enough(self):
        short = ask_in(CHAIN, send(0, 1, 50), send(0, 1, 69), soonest(0, 1, 45), soonest(0, 1, 60))
        self.assertEqual(short, [[0, 60], [1, 79], [79, 89], [79, 89]])
        enough = ask_in(CHAIN, send(0, 1, 50), send(0, 1, 70), soonest(0, 1, 45), soonest(0, 1, 60), soonest(0, 1, 61))
        self.assertEqual(enough, [[0, 60], [1, 80], [60, 70], [60, 70], [80, 90]])

    def test_a_gap_before_the_convoys_that_were_sent_first(self):
        found = ask_in(CHAIN, send(0, 1, 70), send(0, 1, 50), soonest(0, 1, 45), soonest(0, 1, 61))
        self.assertEqual(found, [[0, 80], [1, 60], [60, 70], [80, 90]])

    def test_a_gap_on_one_road_that_is_none_on_another(self):
        # Road 0 is free from 60 on; one that sets out at 60 comes onto road 1 at 70, where it is taken to 85.
        found = ask_in(CHAIN, send(0, 1, 50), send(1, 2, 65), soonest(0, 2, 50), soonest(0, 1, 50))
        self.assertEqual(found, [[0, 60], [1, 85], [75, 105], [60, 70]])
        # And back: clear of road 1 at 75, it would meet the next one on road 0, and then that one on road 1.
        found = ask_in(CHAIN, send(0, 1, 50), send(1, 2, 65), send(0, 2, 80), soonest(0, 2, 50), soonest(0, 1, 50))
        self.assertEqual(found, [[0, 60], [1, 85], [2, 110], [100, 130], [60, 70]])

    def test_eight_one_behind_another(self):
        sends = [send(0, 1, 10 * k) for k in range(8)]
        found = ask_in(CHAIN, *sends, soonest(0, 1, 0), soonest(0, 3, 3), soonest(1, 3, 0))
        self.assertEqual(found, [[k, 10 * k + 10] for k in range(8)] + [[80, 90], [80, 140], [0, 50]])

    def test_a_convoy_on_another_road_is_not_met(self):
        built = country(2, road(0, 1, 10), road(0, 1, 10))
        found = ask_in(built, send(0, 1, 50), close(0), soonest(0, 1, 50), close(0, 0), soonest(0, 1, 50))
        self.assertEqual(found, [[0, 60], [0], [50, 60], [1], [60, 70]])

    def test_only_the_quickest_way_is_looked_at(self):
        built = country(2, road(0, 1, 10), road(0, 1, 11))
        self.assertEqual(ask_in(built, send(0, 1, 50), soonest(0, 1, 50)), [[0, 60], [60, 70]])

    def test_the_load_decides_the_way(self):
        built = country(2, road(0, 1, 10, high=40), road(0, 1, 11))
        found = ask_in(built, send(0, 1, 50), soonest(0, 1, 50, height=40), soonest(0, 1, 50, height=41))
        self.assertEqual(found, [[0, 60], [60, 70], [50, 61]])

    def test_from_a_place_to_itself(self):
        found = ask_in(CHAIN, send(0, 3, 0), soonest(0, 0, 0), soonest(1, 1, 5000), soonest(2, 2, 10, 300, 100, 1000))
        self.assertEqual(found, [[0, 60], [0, 0], [5000, 5000], [10, 10]])

    def test_the_latest_minute_that_is_taken(self):
        self.assertEqual(ask_in(CHAIN, soonest(0, 1, 5000), soonest(0, 1, 5001)), [[5000, 5010], [-22]])

    def test_what_is_told_may_be_later_than_that(self):
        self.assertEqual(ask_in(CHAIN, send(0, 3, 5000), soonest(0, 1, 5000), soonest(2, 3, 5001)),
                         [[0, 5060], [5010, 5020], [-22]])
        self.assertEqual(ask_in(CHAIN, send(0, 3, 5000), soonest(0, 3, 4980)), [[0, 5060], [5030, 5090]])

    def test_asking_sends_none(self):
        found = ask_in(CHAIN, soonest(0, 3, 0), soonest(0, 3, 0), STATE, busy(0, 0), convoy(0))
        self.assertEqual(found, [[0, 60], [0, 60], [4, 3, 0], [-33], [-2]])

    def test_with_eight_convoys_there_it_still_answers(self):
        found = ask_in(CHAIN, *[send(0, 0, 0)] * 8, soonest(0, 1, 0), soonest(0, 0, 0))
        self.assertEqual(found[8:], [[0, 10], [0, 0]])

    def test_refusals(self):
        built = country(2, road(0, 1))
        for numbers, refusal in REFUSED:
            with self.subTest(numbers=numbers):
                self.assertEqual(ask_in(built, call("soonest", *numbers)), [[refusal]])
        self.assertEqual(ask_in(country(2), soonest(0, 1, 5001), soonest(0, 1, 0, 301), soonest(0, 1, 5000)),
                         [[-22], [-22], [-33]])
        self.assertEqual(ask(START, soonest(0, 0, 0))[1], [-2])


class SendCall(unittest.TestCase):
    def test_the_number_and_when_it_is_there(self):
        found = ask_in(CHAIN, send(0, 3, 7), send(3, 2, 100), send(1, 2, 0), STATE)
        self.assertEqual(found, [[0, 67], [1, 130], [-17], [4, 3, 2]])

    def test_the_least_number_that_is_free(self):
        sends = [send(0, 1, 10 * k) for k in range(5)]
        found = ask_in(CHAIN, *sends, drop(1), drop(3), send(0, 1, 100), send(0, 1, 110), send(0, 1, 120))
        self.assertEqual(found, [[k, 10 * k + 10] for k in range(5)] + [[10], [30], [1, 110], [3, 120], [5, 130]])

    def test_number_0_behind_a_drop_of_all(self):
        found = ask_in(CHAIN, send(0, 1, 0), send(0, 1, 10), drop(0), drop(1), send(0, 1, 5), send(0, 1, 15))
        self.assertEqual(found, [[0, 10], [1, 20], [0], [10], [0, 15], [1, 25]])

    def test_it_would_meet_one(self):
        found = ask_in(CHAIN, send(0, 3, 50), send(0, 1, 41), send(0, 1, 59), send(1, 0, 50), send(3, 2, 109),
                       send(3, 0, 51), send(0, 1, 40), send(0, 1, 60), send(3, 2, 110), STATE)
        self.assertEqual(found, [[0, 110]] + [[-17]] * 5 + [[1, 50], [2, 70], [3, 140], [4, 3, 4]])

    def test_a_convoy_behind_another_on_the_same_road(self):
        found = ask_in(CHAIN, send(0, 1, 0), send(0, 1, 9), send(0, 1, 10), send(1, 0, 19), send(1, 0, 20))
        self.assertEqual(found, [[0, 10], [-17], [1, 20], [-17], [2, 30]])

    def test_it_is_met_on_a_later_road(self):
        found = ask_in(CHAIN, send(2, 3, 50), send(0, 3, 1), send(0, 3, 0))
        self.assertEqual(found, [[0, 80], [-17], [-17]])
        found = ask_in(CHAIN, send(2, 3, 60), send(0, 3, 1), send(0, 3, 0))
        self.assertEqual(found, [[0, 90], [-17], [1, 60]])

    def test_a_refused_one_takes_no_road(self):
        found = ask_in(CHAIN, send(2, 3, 50), send(0, 3, 10), send(0, 1, 10), busy(1, 25), convoy(2))
        self.assertEqual(found, [[0, 80], [-17], [1, 20], [-33], [-2]])

    def test_meeting_comes_before_there_are_8(self):
        sends = [send(0, 1, 10 * k) for k in range(8)]
        found = ask_in(CHAIN, *sends, send(0, 1, 79), send(0, 1, 80), send(0, 0, 0), send(0, 1, 5001), send(4, 0, 0),
                       STATE)
        self.assertEqual(found[8:], [[-17], [-28], [-28], [-22], [-2], [4, 3, 8]])

    def test_none_comes_before_there_are_8(self):
        found = ask_in(country(3, road(0, 1)), *[send(0, 0, 0)] * 8, send(0, 2, 0), send(0, 1, 0))
        self.assertEqual(found, [[k, 0] for k in range(8)] + [[-33], [-28]])

    def test_a_drop_makes_room(self):
        sends = [send(0, 1, 10 * k) for k in range(8)]
        found = ask_in(CHAIN, *sends, send(0, 1, 80), drop(5), send(0, 1, 80), send(0, 1, 50))
        self.assertEqual(found[8:], [[-28], [50], [5, 90], [-28]])

    def test_from_a_place_to_itself(self):
        found = ask_in(CHAIN, send(0, 3, 0), send(1, 1, 15), send(1, 1, 15, 300, 100, 1000), STATE)
        self.assertEqual(found, [[0, 60], [1, 15], [2, 15], [4, 3, 3]])

    def test_the_latest_minute_that_is_taken(self):
        self.assertEqual(ask_in(CHAIN, send(0, 3, 5001), send(0, 3, 5000), convoy(0)),
                         [[-22], [0, 5060], [5000, 0, 1, 2]])

    def test_the_longest_of_all(self):
        built = country(8, *[road(k, k + 1, 200) for k in range(7)])
        found = ask_in(built, send(0, 7, 5000), where(0, 6399), where(0, 6400), soonest(7, 0, 5000), soonest(6, 7, 5000))
        self.assertEqual(found, [[0, 6400], [6, 1], [-33], [5200, 6600], [5000, 5200]])

    def test_a_road_closed_under_a_convoy(self):
        found = ask_in(CHAIN, send(0, 3, 0), close(1), where(0, 15), convoy(0), busy(1, 29), way(0, 3),
                       send(1, 2, 100), soonest(1, 2, 0), close(1, 0), soonest(1, 2, 0), send(1, 2, 29), drop(0))
        self.assertEqual(found, [[0, 60], [0], [1, 15], [0, 0, 1, 2], [0], [-33], [-33], [-33], [1], [30, 50], [-17],
                                 [0]])

    def test_a_new_quicker_road_does_not_draw_a_convoy(self):
        found = ask_in(CHAIN, send(0, 3, 0), road(0, 3, 1), convoy(0), where(0, 59), send(0, 3, 0), convoy(1))
        self.assertEqual(found, [[0, 60], [3], [0, 0, 1, 2], [2, 1], [1, 1], [0, 3]])

    def test_by_the_quickest_way_for_that_load(self):
        built = country(2, road(0, 1, 10, high=40), road(0, 1, 11, heavy=400), road(0, 1, 12, a=27, b=64),
                        road(0, 1, 13))
        found = ask_in(built, send(0, 1, 0, 300, 40, 1000), send(0, 1, 0, 300, 41, 400), send(0, 1, 0, 125, 41, 401),
                       send(0, 1, 0, 126, 41, 401), convoy(0), convoy(1), convoy(2), convoy(3))
        self.assertEqual(found, [[0, 10], [1, 11], [2, 12], [3, 13], [0, 0], [0, 1], [0, 2], [0, 3]])

    def test_refusals(self):
        built = country(2, road(0, 1))
        for numbers, refusal in REFUSED:
            with self.subTest(numbers=numbers):
                self.assertEqual(ask_in(built, call("send", *numbers), STATE), [[refusal], [2, 1, 0]])
                found = ask_in(built, *[send(0, 1, 10 * k) for k in range(8)], call("send", *numbers))
                self.assertEqual(found[8:], [[refusal]])
        self.assertEqual(ask_in(country(2), send(0, 1, 5001), send(0, 1, 0, 301), send(0, 1, 5000)),
                         [[-22], [-22], [-33]])
        self.assertEqual(ask(START, send(0, 0, 0))[1], [-2])


class DropCall(unittest.TestCase):
    def test_it_tells_when_it_set_out(self):
        found = ask_in(CHAIN, send(0, 3, 17), send(2, 2, 4), drop(1), drop(0), STATE)
        self.assertEqual(found, [[0, 77], [1, 4], [4], [17], [4, 3, 0]])

    def test_twice(self):
        found = ask_in(CHAIN, send(0, 3, 17), drop(0), drop(0), convoy(0), where(0, 17))
        self.assertEqual(found, [[0, 77], [17], [-2], [-2], [-2]])

    def test_what_it_held_is_free_again(self):
        found = ask_in(CHAIN, send(0, 3, 17), soonest(0, 3, 17), drop(0), soonest(0, 3, 17), busy(0, 17),
                       send(3, 0, 17), busy(0, 17), busy(2, 17))
        self.assertEqual(found, [[0, 77], [47, 107], [17], [17, 77], [-33], [0, 77], [-33], [0]])

    def test_the_others_keep_their_numbers(self):
        found = ask_in(CHAIN, send(0, 1, 0), send(1, 2, 5), send(2, 3, 6), drop(0), convoy(0), convoy(1), convoy(2),
                       busy(2, 6), STATE)
        self.assertEqual(found, [[0, 10], [1, 25], [2, 36], [0], [-2], [5, 1], [6, 2], [2], [4, 3, 2]])

    def test_no_such_convoy(self):
        self.assertEqual(ask_in(CHAIN, drop(0), send(0, 1, 0), drop(1), drop(8), STATE),
                         [[-2], [0, 10], [-2], [-2], [4, 3, 1]])


class ConvoyCall(unittest.TestCase):
    def test_when_it_sets_out_and_its_roads_in_order(self):
        built = country(4, road(2, 3, 4), road(0, 1, 1), road(2, 1, 2))
        found = ask_in(built, send(0, 3, 9), convoy(0), send(3, 1, 5000), convoy(1), convoy(0))
        self.assertEqual(found, [[0, 16], [9, 1, 2, 0], [1, 5006], [5000, 0, 2], [9, 1, 2, 0]])

    def test_of_one_from_a_place_to_itself(self):
        self.assertEqual(ask_in(CHAIN, send(2, 2, 31), convoy(0)), [[0, 31], [31]])

    def test_no_such_convoy(self):
        self.assertEqual(ask_in(CHAIN, convoy(0), send(0, 1, 0), convoy(1), convoy(8)), [[-2], [0, 10], [-2], [-2]])


class SecondStart(unittest.TestCase):
    def test_no_convoy_is_there_any_more(self):
        found = ask_in(CHAIN, send(0, 3, 0), send(0, 1, 10), START, STATE, drop(0), convoy(1), where(0, 5), busy(0, 5),
                       PLACE, PLACE, road(0, 1, 10), busy(0, 5), soonest(0, 1, 0), send(0, 1, 5), STATE)
        self.assertEqual(found, [[0, 60], [1, 20], [0], [0, 0, 0], [-2], [-2], [-2], [-2], [0], [1], [0], [-33],
                                 [0, 10], [0, 15], [2, 1, 1]])

    def test_there_is_room_for_8_again(self):
        eight = [send(0, 0, k) for k in range(8)]
        found = ask_in(country(1), *eight, START, PLACE, *eight, send(0, 0, 0))
        self.assertEqual(found, [[k, k] for k in range(8)] + [[0], [0]] + [[k, k] for k in range(8)] + [[-28]])


if __name__ == "__main__":
    unittest.main()
