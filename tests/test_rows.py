import random
import unittest

import helper
from helper import (BIG, INFINITY, LARGEST, LEAST, MINUS_INFINITY, MINUS_ONE, MINUS_ROUNDED_SQUARE, MINUS_ZERO, NANS,
                    ONE, ROOT, SIGN, ZERO, answers_of, kinds_of_numbers, matrix, mix, singles, window)


class MixTest(unittest.TestCase):
    def check(self, gain, step, a, b, expected):
        self.assertEqual(answers_of(mix(gain, step, a, b)), [[0] + expected])

    def test_no_samples(self):
        self.check(ONE, ONE, [], [], [])

    def test_gain_goes_on_by_the_step(self):
        self.check(*singles(10, 2), singles(1, 1, 1, 1), singles(0, 100, 200, 300), singles(10, 112, 214, 316))
        self.check(*singles(1, -0.5), singles(4, 4, 4, 4), singles(0, 0, 0, 1), singles(4, 2, 0, -1))

    def test_step_is_taken_times_i_not_added_up(self):
        gain, step = singles(0, 0.1)
        expected = [helper.multiply(helper.bits_of(float(i)), step) for i in range(1000)]
        self.check(gain, step, [ONE] * 1000, [ZERO] * 1000, expected)
        added_up = ZERO
        for _ in range(999):
            added_up = helper.add(added_up, step)
        self.assertNotEqual(added_up, expected[999])

    def test_each_product_and_sum_is_rounded(self):
        # i times the step is rounded ahead of the gain: 3 (1 + 2 ** -23) is a tie.
        self.check(singles(-3)[0], ONE + 1, [ONE] * 4, [ZERO] * 4,
                   [helper.bits_of(number) for number in (-3.0, -2.0 + 2.0 ** -23, -1.0 + 2.0 ** -22, 2.0 ** -21)])
        self.check(ROOT, ZERO, [ROOT], [MINUS_ROUNDED_SQUARE], [ZERO])
        self.check(*singles(BIG, 1), [ONE] * 3, [ZERO] * 3, singles(BIG, BIG, BIG + 2))

    def test_zeros_keep_their_signs(self):
        self.check(MINUS_ZERO, MINUS_ONE, [ONE, ONE], [MINUS_ZERO, ZERO], [MINUS_ZERO, MINUS_ONE])
        self.check(MINUS_ZERO, ONE, [ONE], [MINUS_ZERO], [ZERO])
        self.check(ONE, ONE, [MINUS_ZERO], [MINUS_ZERO], [MINUS_ZERO])

    def test_infinite_step_times_zero(self):
        self.check(ONE, INFINITY, [ONE, ONE, MINUS_ONE], [ZERO] * 3, [-1, INFINITY, MINUS_INFINITY])

    def test_no_numbers_are_told_as_minus_one(self):
        for nan in NANS:
            self.check(nan, ZERO, [ZERO], [ONE], [-1])
            self.check(ZERO, nan, [ZERO], [ONE], [-1])
            self.check(ONE, ONE, [nan, ONE], [ONE, ONE], [-1] + singles(3))
            self.check(ONE, ONE, [ONE, ONE], [ONE, nan], singles(2) + [-1])

    def test_against_the_model(self):
        source = random.Random(31)
        for number in kinds_of_numbers(source):
            for _ in range(40):
                size = source.choice((0, 1, 2, 30))
                a = [number() for _ in range(size)]
                b = [number() for _ in range(size)]
                gain, step = number(), number()
                self.check(gain, step, a, b, helper.ModelMixer().mix(gain, step, a, b)[1:])


class WindowTest(unittest.TestCase):
    def check(self, n, x, taps, expected):
        self.assertEqual(answers_of(window(n, x, taps)), [[0] + expected])

    def test_no_numbers_asked_for(self):
        self.check(0, [], [ONE], [])
        self.check(0, [], singles(1, 2, 3), [])
        self.check(0, [], [NANS[0]] * 256, [])

    def test_one_tap(self):
        self.check(3, singles(1, 2, 3), singles(2), singles(2, 4, 6))

    def test_several_taps(self):
        self.check(3, singles(1, 2, 3, 4, 5), singles(1, 10, 100), singles(321, 432, 543))
        self.check(1, singles(1, 2, 3), singles(1, 10, 100), singles(321))

    def test_starts_at_zero(self):
        self.check(2, [MINUS_ZERO, ZERO], [ONE], [ZERO, ZERO])
        self.check(1, [MINUS_ZERO, MINUS_ZERO], [ONE, ONE], [ZERO])
        self.check(1, [LEAST | SIGN], [LEAST], [ZERO])
        self.check(1, [MINUS_ONE, ONE], [ONE, ONE], [ZERO])

    def test_order_of_the_sum(self):
        self.check(1, [ONE] * 3, singles(BIG, 1, 1), singles(BIG))
        self.check(1, [ONE] * 3, singles(1, 1, BIG), singles(BIG + 2))
        self.check(1, [ONE] * 3, singles(BIG, -BIG, 1), singles(1))
        self.check(1, [ONE] * 3, singles(BIG, 1, -BIG), singles(0))

    def test_products_are_rounded_by_themselves(self):
        self.check(1, [MINUS_ROUNDED_SQUARE, ROOT], [ONE, ROOT], [ZERO])
        self.check(1, [ROOT, MINUS_ROUNDED_SQUARE], [ROOT, ONE], [ZERO])

    def test_sum_that_is_too_large_on_the_way(self):
        # An infinity stays, though what comes behind it would bring the sum back.
        self.check(2, [LARGEST, LARGEST, LARGEST | SIGN, ZERO], [ONE, ONE, ONE], [INFINITY, ZERO])
        self.check(1, [LARGEST, LARGEST, LARGEST | SIGN], [ONE, ONE, ONE], [INFINITY])
        self.check(1, [LARGEST | SIGN] * 3, [ONE, ONE, MINUS_ONE], [MINUS_INFINITY])
        self.check(1, [LARGEST, LARGEST, LARGEST], [LARGEST, LARGEST | SIGN, ONE], [-1])
        # 2 ** 128 is infinite, though the sum would be finite again.
        self.check(1, [LARGEST | SIGN, 0x5F800000], [ONE, 0x5F800000], [INFINITY])
        self.check(1, [LARGEST, 0x5F800000], [ONE, 0xDF800000], [MINUS_INFINITY])
        self.check(1, [LARGEST, 0x72FFFFFF], [ONE, ONE], [LARGEST])
        self.check(1, [LARGEST, 0x73000000], [ONE, ONE], [INFINITY])

    def test_infinities(self):
        self.check(3, [ONE, INFINITY, ONE, ONE], [ONE, ONE], [INFINITY, INFINITY, 0x40000000])
        self.check(2, [INFINITY, ONE, ONE], [ZERO, ONE], [-1, ONE])
        self.check(1, [INFINITY, MINUS_INFINITY], [ONE, ONE], [-1])
        self.check(2, [ONE, MINUS_ONE], [INFINITY], [INFINITY, MINUS_INFINITY])

    def test_no_numbers_are_told_as_minus_one(self):
        for nan in NANS:
            self.check(3, [ONE, nan, ONE, ONE], [ONE, ONE], [-1, -1, 0x40000000])
            self.check(2, [ONE, ONE, ONE], [ONE, nan], [-1, -1])

    def test_least_numbers(self):
        self.check(2, [LEAST, LEAST, 2], [ONE, ONE], [2, 3])
        # Each product is rounded to an even number of steps by itself.
        self.check(1, [LEAST, LEAST, 3], singles(0.5, 0.5, 0.5), [2])

    def test_as_many_as_there_may_be(self):
        x = [helper.bits_of((k * 37 % 101 - 50) / 64) for k in range(1255)]
        taps = [helper.bits_of((k * 13 % 31 - 15) / 32) for k in range(256)]
        found = answers_of(window(1000, x, taps))[0]
        self.assertEqual(len(found), 1001)
        for i in (0, 1, 500, 999):
            self.assertEqual(found[1 + i], helper.ModelMixer().window(1, x[i:i + 256], taps)[1])

    def test_against_the_model(self):
        source = random.Random(41)
        for number in kinds_of_numbers(source):
            for _ in range(40):
                n = source.choice((0, 1, 7))
                taps = [number() for _ in range(source.choice((1, 2, 9)))]
                x = [number() for _ in range(n + len(taps) - 1 if n else 0)]
                self.check(n, x, taps, helper.ModelMixer().window(n, x, taps)[1:])


class MatrixTest(unittest.TestCase):
    def check(self, n, m, x, expected):
        self.assertEqual(answers_of(matrix(n, m, x)), [[0] + expected])

    def test_no_places(self):
        self.check(0, [ONE] * 16, [], [])
        self.check(0, [NANS[0]] * 16, [], [])

    def test_each_row_with_its_own_numbers(self):
        m = singles(1, 2, 3, 4, 10, 20, 30, 40, 100, 200, 300, 400, 1000, 2000, 3000, 4000)
        self.check(1, m, singles(1, 10, 100, 1000), singles(4321, 43210, 432100, 4321000))
        x = singles(1, 0, 0, 0, 0) + singles(0, 1, 0, 0, 2) + singles(0, 0, 1, 0, 0) + singles(0, 0, 0, 1, 1)
        self.check(5, m, x, singles(1, 2, 3, 4, 8) + singles(10, 20, 30, 40, 80) + singles(100, 200, 300, 400, 800)
                   + singles(1000, 2000, 3000, 4000, 8000))

    def test_rows_change_places(self):
        m = singles(0, 0, 0, 1, 0, 0, 1, 0, 0, 1, 0, 0, 1, 0, 0, 0)
        self.check(2, m, singles(1, 2, 3, 4, 5, 6, 7, 8), singles(7, 8, 5, 6, 3, 4, 1, 2))

    def test_order_of_the_sum(self):
        m = (singles(BIG, 1, 1, 1) + singles(1, 1, 1, BIG) + singles(BIG, 1, -BIG, 1) + singles(1, BIG, 1, -BIG))
        self.check(1, m, [ONE] * 4, singles(BIG, BIG + 4, 1, 0))

    def test_products_are_rounded_by_themselves(self):
        m = [ROOT, ONE, ZERO, ZERO] + [ZERO] * 12
        self.check(1, m, [ROOT, MINUS_ROUNDED_SQUARE, ZERO, ZERO], [ZERO] * 4)

    def test_starts_with_the_first_product(self):
        m = [MINUS_ZERO] * 4 + [ONE] * 4 + [MINUS_ZERO, ZERO, ZERO, ZERO] + [MINUS_ONE] * 4
        self.check(1, m, [ZERO] * 4, [MINUS_ZERO, ZERO, ZERO, MINUS_ZERO])
        self.check(1, m, [MINUS_ZERO] * 4, [ZERO, MINUS_ZERO, ZERO, ZERO])

    def test_too_large_and_infinite(self):
        m = [ONE, ONE, MINUS_ONE, ZERO] + [ONE, MINUS_ONE, ONE, ZERO] + [INFINITY, ONE, ONE, ONE] + [ZERO] * 4
        self.check(1, m, [LARGEST, LARGEST, LARGEST, ONE], [INFINITY, LARGEST, INFINITY, ZERO])
        self.check(1, [ONE] * 4 + [ZERO] * 12, [INFINITY, MINUS_INFINITY, ONE, ONE], [-1, -1, -1, -1])

    def test_no_numbers_are_told_as_minus_one(self):
        for nan in NANS:
            self.check(2, [ONE] * 16, [ONE, nan] + [ONE] * 6, [0x40800000, -1] * 4)
            self.check(1, [ONE] * 7 + [nan] + [ONE] * 8, [ONE] * 4, [0x40800000, -1, 0x40800000, 0x40800000])

    def test_as_many_as_there_may_be(self):
        m = singles(1, 0.5, 0.25, 0.125, 2, 4, 8, 16, -1, -2, -4, -8, 3, 5, 7, 9)
        x = [helper.bits_of((k * 37 % 101 - 50) / 7) for k in range(4000)]
        self.check(1000, m, x, helper.ModelMixer().matrix(1000, m, x)[1:])

    def test_against_the_model(self):
        source = random.Random(51)
        for number in kinds_of_numbers(source):
            for _ in range(40):
                n = source.choice((0, 1, 2, 5))
                m = [number() for _ in range(16)]
                x = [number() for _ in range(4 * n)]
                self.check(n, m, x, helper.ModelMixer().matrix(n, m, x)[1:])


if __name__ == "__main__":
    unittest.main()
