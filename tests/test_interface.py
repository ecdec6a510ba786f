"""Ahead of the points: the list of calls, and what comes before a start."""

import unittest

from bendlorries.roads import answers
from tests.asking import (
    HOW_MANY_NUMBERS, HUGE, PLACE, START, STATE, ask, ask_in, busy, call, close, convoy, country, drop, heaviest,
    highest, look, may, most, needs, road, send, soonest, way, where,
)


class BeforeAStart(unittest.TestCase):
    def test_every_other_call_is_refused(self):
        for name, count in HOW_MANY_NUMBERS.items():
            if name == "start":
                continue
            for number in (0, 1, HUGE):
                with self.subTest(name=name, number=number):
                    self.assertEqual(answers(call(name, *[number] * count)), [1, -11])

    def test_all_of_them_one_behind_another(self):
        calls = [call(name, *[5] * count) for name, count in HOW_MANY_NUMBERS.items() if name != "start"]
        self.assertEqual(ask(*calls), [[-11]] * 21)

    def test_each_is_read_over_to_its_end(self):
        for name, count in HOW_MANY_NUMBERS.items():
            if name != "start":
                with self.subTest(name=name):
                    found = ask(call(name, *[HUGE] * count), PLACE, START, PLACE)
                    self.assertEqual(found, [[-11], [-11], [0], [0]])

    def test_a_refused_call_does_nothing(self):
        self.assertEqual(ask(PLACE, PLACE, START, PLACE), [[-11], [-11], [0], [0]])

    def test_a_start_is_answered_0(self):
        self.assertEqual(answers([0]), [1, 0])


class TheList(unittest.TestCase):
    def test_calls_one_behind_another(self):
        calls = [0, 1, 1, 1, 2, 0, 1, 7, 50, 500, 27, 64, 2, 1, 2, 8, 50, 500, 0, 0,
                 9, 0, 2, 125, 50, 500, 9, 0, 2, 126, 50, 500, 10, 0, 2, 50, 500, 5, 5, 3, 4, 1]
        told = [1, 0, 1, 0, 1, 1, 1, 2, 1, 0, 1, 1, 3, 15, 0, 1, 1, -33, 1, 125, 1, 1, 1, 3]
        self.assertEqual(answers(calls), told)

    def test_what_is_handed_in_stays(self):
        calls = sum(country(3, road(0, 1, a=5, b=5), road(1, 2)), [])
        calls += send(0, 2, 5) + send(2, 2, 7) + close(1) + call("widen", 0, 9, 9) + way(0, 1) + most(0, 1) + may(0)
        calls += call("round", 5, 3, 4) + heaviest(0, 1) + highest(0, 1) + needs(0, 1) + soonest(0, 1, 5) + drop(0)
        calls += where(1, 7) + busy(0, 5) + convoy(1) + look(0) + STATE
        before = list(calls)
        answers(calls)
        self.assertEqual(calls, before)

    def test_nothing_is_kept(self):
        calls = sum(country(3, road(0, 1, a=5, b=5), road(1, 2)), []) + send(0, 2, 0) + close(0) + way(0, 2) + STATE
        first = answers(calls)
        self.assertEqual(answers(calls), first)
        self.assertEqual(answers(PLACE), [1, -11])
        self.assertEqual(answers(convoy(0)), [1, -11])
        self.assertEqual(answers(START + STATE), [1, 0, 3, 0, 0, 0])

    def test_what_is_given_back_is_new(self):
        first = answers(START + PLACE)
        first.append(77)
        self.assertEqual(answers(START + PLACE), [1, 0, 1, 0])

    def test_two_hundred_calls(self):
        built = country(8, *[road(k % 8, (k + 1) % 8, a=100, b=1 + k) for k in range(14)])
        found = ask(*built, *[most(0, 4)] * (200 - len(built)))
        self.assertEqual(len(found), 200)
        self.assertEqual({answer[0] for answer in found[len(built):]}, {ask(*built, most(0, 4))[-1][0]})

    def test_two_hundred_calls_with_all_that_may_be_there(self):
        built = country(8, *[road(k % 8, (k + 1) % 8, 200, 50 + k, 500 + k, 100, 100 + k) for k in range(14)])
        # One behind another by the roads 0 to 3, so that road 3 is taken from 4200 to 5800.
        sends = [send(0, 4, 5000 - 200 * k) for k in range(8)]
        asked = [
            (soonest(0, 4, 3600), [5200, 6000]), (soonest(0, 1, 0), [0, 200]), (soonest(4, 0, 5000), [5800, 6600]),
            (soonest(3, 4, 4300), [5800, 6000]), (send(0, 4, 3600), [-17]), (send(4, 0, 5000), [-17]),
            (send(4, 6, 0), [-28]), (where(7, 4399), [3, 1]), (where(0, 5799), [3, 1]), (busy(3, 5800), [-33]),
            (busy(0, 3799), [7]), (convoy(3), [4400, 0, 1, 2, 3]), (look(13), [200, 5, 6, 63, 513, 100, 113, 0]),
            (STATE, [8, 14, 8]), (heaviest(0, 4), [508]), (highest(0, 4), [58]), (needs(0, 4), [0]),
            (needs(0, 7), [0]), (drop(8), [-2]),
        ]
        count = 200 - len(built) - len(sends)
        chosen = [asked[k % len(asked)] for k in range(count)]
        found = ask_in(built, *sends, *[one for one, wished in chosen])
        self.assertEqual(found[:8], [[k, 5800 - 200 * k] for k in range(8)])
        for (one, wished), answer in zip(chosen, found[8:]):
            self.assertEqual(answer, wished, one)


class HugeNumbers(unittest.TestCase):
    """4294967295 at each place of each call, where else all is well."""

    WELL = {
        "road": ((0, 1, 10, 100, 1000, 5, 5), (-2, -2, -22, -22, -22, -22, -22)),
        "close": ((0, 1), (-2, -22)),
        "widen": ((0, 200, 200), (-2, -22, -22)),
        "round": ((5, 3, 4), (-22, -22, -22)),
        "longest": ((3, 4), (-22, -22)),
        "narrowest": ((5, 3), (-22, -22)),
        "may": ((0, 5, 5, 5), (-2, -22, -22, -22)),
        "way": ((0, 1, 5, 5, 5), (-2, -2, -22, -22, -22)),
        "most": ((0, 1, 5, 5), (-2, -2, -22, -22)),
        "heaviest": ((0, 1, 5, 5), (-2, -2, -22, -22)),
        "highest": ((0, 1, 5, 5), (-2, -2, -22, -22)),
        "needs": ((0, 1, 5, 5, 5), (-2, -2, -22, -22, -22)),
        "soonest": ((0, 1, 5, 5, 5, 3), (-2, -2, -22, -22, -22, -22)),
        "send": ((0, 1, 5, 5, 5, 50), (-2, -2, -22, -22, -22, -22)),
        "drop": ((0,), (-2,)),
        "where": ((0, 3), (-2, -33)),
        "busy": ((0, 3), (-2, -33)),
        "convoy": ((0,), (-2,)),
        "look": ((0,), (-2,)),
    }

    def test_no_call_is_left_out(self):
        with_numbers = [name for name, count in HOW_MANY_NUMBERS.items() if count > 0]
        self.assertEqual([name for name in with_numbers if name not in self.WELL], [])

    def test_at_each_place(self):
        built = country(2, road(0, 1, a=50, b=50), send(0, 1, 0))
        for name, (numbers, refusals) in self.WELL.items():
            self.assertGreaterEqual(ask(*built, call(name, *numbers))[-1][0], 0, name)
            for at, refusal in enumerate(refusals):
                with self.subTest(name=name, at=at):
                    wrong = numbers[:at] + (HUGE,) + numbers[at + 1:]
                    self.assertEqual(ask(*built, call(name, *wrong))[-1], [refusal])

    def test_at_all_places(self):
        for name, (numbers, refusals) in self.WELL.items():
            with self.subTest(name=name):
                wrong = [HUGE] * len(numbers)
                self.assertEqual(ask(*country(2, road(0, 1), send(0, 1, 0)), call(name, *wrong))[-1], [refusals[0]])
                self.assertEqual(ask(START, call(name, *wrong))[-1], [refusals[0]])


if __name__ == "__main__":
    unittest.main()
