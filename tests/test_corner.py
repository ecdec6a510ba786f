"""Point 2: round, longest, narrowest; and what holds of them (a)."""

import math
import unittest
from fractions import Fraction

from tests.asking import START, ask, call


def ask_many(calls):
    """The answers to any number of calls, which need only a start."""
    found = []
    for at in range(0, len(calls), 199):
        found += ask(START, *calls[at:at + 199])[1:]
    return [answer[0] for answer in found]


def one(name, *numbers):
    return ask(START, call(name, *numbers))[1]


def longest_by_roots(a, b):
    """The longest whole length by the curve's own equation: l^(2/3) = a^(2/3) + b^(2/3)."""
    length = (a ** (2 / 3) + b ** (2 / 3)) ** 1.5
    return min(300, math.floor(length + 1e-9))


class RoundCall(unittest.TestCase):
    def test_a_rod_just_as_long_as_it_may_be(self):
        for length, a, b in ((125, 27, 64), (250, 54, 128)):
            self.assertEqual(one("round", length, a, b), [1])
            self.assertEqual(one("round", length, b, a), [1])
            self.assertEqual(one("round", length - 1, a, b), [1])
            self.assertEqual(one("round", length + 1, a, b), [0])
            self.assertEqual(one("round", length, a - 1, b), [0])
            self.assertEqual(one("round", length, a, b - 1), [0])

    def test_c_of_0_and_below(self):
        self.assertEqual(one("round", 5, 3, 4), [1])
        self.assertEqual(one("round", 4, 3, 4), [1])
        self.assertEqual(one("round", 0, 3, 4), [1])
        self.assertEqual(one("round", 0, 0, 0), [1])

    def test_c_below_0_with_a_great_cube(self):
        self.assertEqual(one("round", 0, 200, 200), [1])
        self.assertEqual(one("round", 0, 200, 0), [1])
        self.assertEqual(one("round", 100, 0, 200), [1])

    def test_a_width_of_0(self):
        for width in (1, 20, 200):
            self.assertEqual(one("round", width, width, 0), [1])
            self.assertEqual(one("round", width, 0, width), [1])
            self.assertEqual(one("round", width + 1, width, 0), [0])
            self.assertEqual(one("round", width + 1, 0, width), [0])
        self.assertEqual(one("round", 1, 0, 0), [0])
        self.assertEqual(one("round", 300, 0, 0), [0])

    def test_both_sides_alike(self):
        self.assertEqual(one("round", 28, 10, 10), [1])
        self.assertEqual(one("round", 29, 10, 10), [0])
        self.assertEqual(one("round", 300, 200, 200), [1])

    def test_refusals(self):
        self.assertEqual(one("round", 301, 5, 5), [-22])
        self.assertEqual(one("round", 5, 201, 5), [-22])
        self.assertEqual(one("round", 5, 5, 201), [-22])

    def test_the_limits_are_taken(self):
        self.assertEqual(one("round", 300, 5, 5), [0])
        self.assertEqual(one("round", 5, 200, 5), [1])
        self.assertEqual(one("round", 5, 5, 200), [1])


class LongestCall(unittest.TestCase):
    def test_ordinary_and_edges(self):
        for a, b, length in ((27, 64, 125), (64, 27, 125), (54, 128, 250), (27, 63, 123), (10, 10, 28),
                             (0, 0, 0), (0, 1, 1), (200, 0, 200), (1, 1, 2)):
            with self.subTest(a=a, b=b):
                self.assertEqual(one("longest", a, b), [length])

    def test_300_at_most(self):
        self.assertEqual(one("longest", 200, 200), [300])
        self.assertEqual(one("longest", 106, 106), [299])
        self.assertEqual(one("longest", 107, 107), [300])

    def test_refusals(self):
        self.assertEqual(one("longest", 201, 5), [-22])
        self.assertEqual(one("longest", 5, 201), [-22])

    def test_every_pair_of_widths(self):
        pairs = [(a, b) for a in range(201) for b in range(201)]
        found = ask_many([call("longest", a, b) for a, b in pairs])
        wrong = [pair for pair, length in zip(pairs, found) if length != longest_by_roots(*pair)]
        self.assertEqual(wrong, [])

    def test_the_longest_goes_round_and_a_longer_does_not(self):
        pairs = [(a, b) for a in range(0, 201, 7) for b in range(0, 201, 9)]
        lengths = ask_many([call("longest", a, b) for a, b in pairs])
        found = ask_many([call("round", length, a, b) for (a, b), length in zip(pairs, lengths)])
        self.assertEqual(set(found), {1})
        longer = [(length + 1, a, b) for (a, b), length in zip(pairs, lengths) if length < 300]
        self.assertEqual(set(ask_many([call("round", *numbers) for numbers in longer])), {0})


class NarrowestCall(unittest.TestCase):
    def test_ordinary_and_edges(self):
        for length, a, b in ((125, 27, 64), (125, 64, 27), (250, 54, 128), (126, 27, 65), (0, 0, 0), (5, 5, 0),
                             (5, 200, 0), (200, 200, 0), (6, 5, 1), (200, 0, 200), (1, 0, 1), (300, 107, 106)):
            with self.subTest(length=length, a=a):
                self.assertEqual(one("narrowest", length, a), [b])

    def test_none(self):
        self.assertEqual(one("narrowest", 201, 0), [-33])
        self.assertEqual(one("narrowest", 300, 0), [-33])
        self.assertEqual(one("narrowest", 300, 10), [-33])

    def test_none_just_below_the_least_width(self):
        least = min(a for a in range(201) if longest_by_roots(a, 200) >= 300)
        self.assertEqual(one("narrowest", 300, least)[0] >= 0, True)
        self.assertEqual(one("narrowest", 300, least - 1), [-33])

    def test_refusals(self):
        self.assertEqual(one("narrowest", 301, 5), [-22])
        self.assertEqual(one("narrowest", 5, 201), [-22])
        self.assertEqual(one("narrowest", 301, 0), [-22])

    def test_against_the_curve(self):
        pairs = [(length, a) for length in range(0, 301, 6) for a in range(0, 201, 5)]
        found = ask_many([call("narrowest", length, a) for length, a in pairs])
        for (length, a), b in zip(pairs, found):
            least = min((b for b in range(201) if longest_by_roots(a, b) >= length), default=-33)
            self.assertEqual(b, least, (length, a))


class WhatHolds(unittest.TestCase):
    def test_a_rod_goes_round_just_if_it_can_be_turned(self):
        # Halves of an angle with a whole-numbered tangent give sines and cosines without rounding.
        angles = []
        for k in range(1, 200):
            t = Fraction(k, 200)
            angles.append((2 * t / (1 + t * t), (1 - t * t) / (1 + t * t)))
        for a, b in ((27, 64), (54, 128), (0, 20), (20, 0), (33, 7), (90, 91)):
            length = one("longest", a, b)[0]
            clear = [a * sine + b * cosine >= length * sine * cosine for sine, cosine in angles]
            self.assertTrue(all(clear), (a, b))
            stuck = [a * sine + b * cosine < (length + 1) * sine * cosine for sine, cosine in angles]
            if a and b:
                self.assertTrue(any(stuck), (a, b))

    def test_the_same_from_either_side(self):
        triples = [(length, a, b) for length in range(0, 301, 15) for a in range(0, 201, 20) for b in range(0, 201, 20)]
        one_way = ask_many([call("round", length, a, b) for length, a, b in triples])
        other_way = ask_many([call("round", length, b, a) for length, a, b in triples])
        self.assertEqual(one_way, other_way)


if __name__ == "__main__":
    unittest.main()
