import random
import unittest

import helper
from helper import (BIG, INFINITY, LARGEST, LEAST, MINUS_INFINITY, MINUS_ONE, MINUS_ROUNDED_SQUARE, MINUS_ZERO, NANS,
                    ONE, ROOT, SIGN, ZERO, answers_of, kinds_of_numbers, shifts, singles)

TWO = 0x40000000


class ShiftsTest(unittest.TestCase):
    def check(self, lags, a, b, expected):
        self.assertEqual(answers_of(shifts(lags, a, b)), [[0] + expected])

    def test_no_numbers_in_a(self):
        self.check(1, [], [], [ZERO])
        self.check(3, [], singles(5, 6), [ZERO] * 3)
        self.check(3, [], [NANS[0], MINUS_INFINITY], [ZERO] * 3)
        self.check(1024, [], [MINUS_ONE] * 1023, [ZERO] * 1024)

    def test_one_lag(self):
        self.check(1, singles(2), singles(3), singles(6))
        self.check(1, singles(1, 10, 100), singles(1, 2, 3), singles(321))

    def test_several_lags(self):
        self.check(3, singles(1, 10, 100), singles(1, 2, 3, 4, 5), singles(321, 432, 543))
        self.check(4, singles(2), singles(1, 2, 3, 4), singles(2, 4, 6, 8))
        self.check(5, singles(1, -1), singles(1, 2, 4, 8, 16, 32), singles(-1, -2, -4, -8, -16))

    def test_starts_at_zero(self):
        self.check(2, [ONE], [MINUS_ZERO, ZERO], [ZERO, ZERO])
        self.check(1, [MINUS_ZERO, MINUS_ZERO], [ONE, ONE], [ZERO])
        self.check(1, [LEAST | SIGN], [LEAST], [ZERO])
        self.check(1, [ONE, ONE], [ONE, MINUS_ONE], [ZERO])

    def test_order_of_the_sum(self):
        self.check(2, [ONE] * 3, singles(BIG, 1, 1, BIG), singles(BIG, BIG + 2))
        self.check(1, [ONE] * 3, singles(BIG, -BIG, 1), singles(1))
        self.check(1, [ONE] * 3, singles(BIG, 1, -BIG), singles(0))
        self.check(1, [ONE] * 3, singles(1, BIG, -BIG), singles(0))

    def test_products_and_sums_are_rounded_by_themselves(self):
        self.check(1, [ONE, ROOT], [MINUS_ROUNDED_SQUARE, ROOT], [ZERO])
        self.check(1, [ROOT, ONE], [ROOT, MINUS_ROUNDED_SQUARE], [ZERO])
        self.check(1, singles(0.5, 0.5, 0.5), [LEAST, LEAST, 3], [2])
        # Halfway between two singles: down to the even one, and up.
        self.check(1, [ONE, ONE], [ONE, 0x33800000], [ONE])
        self.check(1, [ONE, ONE], [ONE + 1, 0x33800000], [ONE + 2])
        self.check(1, [ONE, ONE], [MINUS_ONE, 0xB3800000], [MINUS_ONE])
        self.check(1, [ONE, ONE], [MINUS_ONE + 1, 0xB3800000], [MINUS_ONE + 2])

    def test_too_large_on_the_way(self):
        self.check(2, [ONE] * 3, [LARGEST, LARGEST, LARGEST | SIGN, ZERO], [INFINITY, ZERO])
        self.check(1, [ONE] * 3, [LARGEST | SIGN, LARGEST | SIGN, LARGEST], [MINUS_INFINITY])
        self.check(1, [LARGEST, LARGEST | SIGN, ONE], [LARGEST] * 3, [-1])
        self.check(1, [ONE, 0x5F800000], [LARGEST | SIGN, 0x5F800000], [INFINITY])
        self.check(1, [ONE, ONE], [LARGEST, 0x72FFFFFF], [LARGEST])
        self.check(1, [ONE, ONE], [LARGEST, 0x73000000], [INFINITY])
        self.check(1, [ONE, ONE], [0x7EFFFFFF, 0x72800000], [0x7F000000])

    def test_total_just_too_large_stays_infinite(self):
        # Each number is below 2 ** 127; two of them are the largest single.
        less = 0x7EFFFFFF
        self.check(1, [ONE] * 3, [less, less, less | SIGN], [less])
        self.check(1, [ONE] * 4, [less, less, 0x72FFFFFF, less | SIGN], [less])
        self.check(1, [ONE] * 4, [less, less, 0x73000000, less | SIGN], [INFINITY])
        self.check(1, [ONE] * 4, [less | SIGN, less | SIGN, 0xF3000000, less], [MINUS_INFINITY])
        self.check(1, [ONE] * 6, [less] * 3 + [less | SIGN] * 3, [INFINITY])

    def test_product_just_too_large_stays_infinite(self):
        # 2 ** 64 times a number just below it is the largest single; times itself it is infinite.
        less, root, low = 0x5F7FFFFF, 0x5F800000, 0xFF000000
        self.check(1, [ONE, root], [low, less], [0x7EFFFFFE])
        self.check(1, [ONE, root], [low, root], [INFINITY])
        self.check(1, [ONE, root, ONE], [low, root, low], [INFINITY])
        self.check(1, [ONE, root, ONE], [low ^ SIGN, root | SIGN, low ^ SIGN], [MINUS_INFINITY])
        self.check(1, [LARGEST, LARGEST], [LARGEST, LARGEST], [INFINITY])

    def test_infinities_in_a(self):
        self.check(3, [INFINITY, ONE], [ONE, MINUS_ONE, ZERO, ONE], [INFINITY, MINUS_INFINITY, -1])
        self.check(2, [ONE, MINUS_INFINITY], [ONE, ONE, MINUS_ONE], [MINUS_INFINITY, INFINITY])
        self.check(2, [INFINITY, INFINITY], [ONE, ONE, MINUS_ONE], [INFINITY, -1])

    def test_infinities_in_some_of_the_windows(self):
        self.check(5, [ONE, ONE], [ONE, ONE, INFINITY, ONE, ONE, ONE], [TWO, INFINITY, INFINITY, TWO, TWO])
        self.check(3, [ZERO, ONE], [MINUS_INFINITY, ONE, ONE, MINUS_INFINITY], [-1, ONE, MINUS_INFINITY])
        self.check(4, [ONE, ONE], [INFINITY, MINUS_INFINITY, ONE, ONE, INFINITY], [-1, MINUS_INFINITY, TWO, INFINITY])

    def test_no_numbers_are_told_as_minus_one(self):
        for nan in NANS:
            self.check(3, [ONE, nan], [ONE] * 4, [-1] * 3)
            self.check(2, [nan], [ZERO, INFINITY], [-1, -1])
            self.check(5, [ONE, ONE], [ONE, ONE, nan, ONE, ONE, ONE], [TWO, -1, -1, TWO, TWO])
            self.check(2, [ONE, ONE], [nan, ONE, ONE], [-1, TWO])
            self.check(2, [ONE, ONE], [ONE, ONE, nan], [TWO, -1])
            self.check(2, [ONE, ONE, ONE], [nan, ONE, INFINITY, ONE], [-1, INFINITY])

    def test_as_many_as_there_may_be(self):
        a = [helper.bits_of((k * 13 % 31 - 15) / 37) for k in range(1000)]
        b = [helper.bits_of((k * 37 % 101 - 50) / 61) for k in range(2023)]
        found = answers_of(shifts(1024, a, b))[0]
        self.assertEqual(len(found), 1025)
        for lag in (0, 1, 500, 1022, 1023):
            self.assertEqual(found[1 + lag], helper.ModelMixer().shifts(1, a, b[lag:lag + 1000])[1])

    def test_against_the_model(self):
        source = random.Random(101)
        for number in kinds_of_numbers(source):
            for _ in range(60):
                lags = source.choice((1, 2, 3, 9))
                a = [number() for _ in range(source.choice((0, 1, 2, 12)))]
                b = [number() for _ in range(len(a) + lags - 1)]
                self.check(lags, a, b, helper.ModelMixer().shifts(lags, a, b)[1:])


if __name__ == "__main__":
    unittest.main()
