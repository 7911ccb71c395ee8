import random
import unittest

import helper
from helper import (INFINITY, LARGEST, LEAST, MINUS_INFINITY, MINUS_ONE, MINUS_ZERO, NANS, ONE, SIGN, ZERO, answers_of,
                    hold, kinds_of_numbers, singles)

TWO = 0x40000000
MINUS_TWO = 0xC0000000


class HoldTest(unittest.TestCase):
    def check(self, most, x, expected):
        self.assertEqual(answers_of(hold(most, x)), [[0] + expected])

    def test_no_numbers(self):
        self.check(ONE, [], [])
        self.check(NANS[0], [], [])

    def test_above_below_between_and_at_both(self):
        self.check(ONE, singles(2, -2, 0.5, -0.5, 1, -1, 0), singles(1, -1, 0.5, -0.5, 1, -1, 0))
        self.check(ONE, [ONE + 1, ONE - 1, MINUS_ONE + 1, MINUS_ONE - 1], [ONE, ONE - 1, MINUS_ONE, MINUS_ONE - 1])
        self.check(LEAST, [2, LEAST, ZERO, LEAST | SIGN, 2 | SIGN], [LEAST, LEAST, ZERO, LEAST | SIGN, LEAST | SIGN])

    def test_most_below_zero(self):
        # What is above most is held once: it is not raised to -most behind that.
        self.check(MINUS_ONE, singles(5, 1, 0.5, 0, -0.5), singles(-1, -1, -1, -1, -1))
        self.check(MINUS_ONE, [MINUS_ZERO, INFINITY, MINUS_ONE - 1], [MINUS_ONE] * 3)
        self.check(MINUS_ONE, [MINUS_ONE, MINUS_ONE + 1, MINUS_TWO, MINUS_INFINITY], [ONE] * 4)

    def test_most_a_zero(self):
        self.check(ZERO, [ONE, LEAST, MINUS_ONE, LEAST | SIGN], [ZERO, ZERO, MINUS_ZERO, MINUS_ZERO])
        self.check(MINUS_ZERO, [ONE, LEAST, MINUS_ONE, LEAST | SIGN], [MINUS_ZERO, MINUS_ZERO, ZERO, ZERO])

    def test_zeros_stay_as_they_are(self):
        for most in (ZERO, MINUS_ZERO, LEAST, ONE, INFINITY):
            self.check(most, [ZERO, MINUS_ZERO], [ZERO, MINUS_ZERO])

    def test_most_infinite(self):
        x = [INFINITY, LARGEST, ONE, ZERO, MINUS_ZERO, MINUS_ONE, LARGEST | SIGN, MINUS_INFINITY]
        self.check(INFINITY, x, x)
        self.check(MINUS_INFINITY, x, [MINUS_INFINITY] * 7 + [INFINITY])

    def test_infinities_are_held(self):
        self.check(TWO, [INFINITY, MINUS_INFINITY], [TWO, MINUS_TWO])
        self.check(LARGEST, [INFINITY, MINUS_INFINITY], [LARGEST, LARGEST | SIGN])

    def test_most_no_number(self):
        x = [INFINITY, ONE, ZERO, MINUS_ZERO, MINUS_ONE, MINUS_INFINITY]
        for nan in NANS:
            self.check(nan, x + [NANS[0]], x + [-1])

    def test_no_numbers_stay_and_are_told_as_minus_one(self):
        for most in (ONE, MINUS_ONE, ZERO, INFINITY):
            self.check(most, list(NANS), [-1] * len(NANS))
        self.check(ONE, [TWO, NANS[0], MINUS_TWO], [ONE, -1, MINUS_ONE])

    def test_as_many_as_there_may_be(self):
        x = [helper.bits_of((k - 500) / 100) for k in range(1000)]
        self.check(TWO, x, [MINUS_TWO] * 300 + x[300:700] + [TWO] * 300)

    def test_against_the_model(self):
        source = random.Random(71)
        for number in kinds_of_numbers(source):
            for _ in range(100):
                most = number()
                x = [number() for _ in range(source.choice((1, 2, 20)))] + [most, most ^ SIGN]
                self.check(most, x, helper.ModelMixer().hold(most, x)[1:])


if __name__ == "__main__":
    unittest.main()
