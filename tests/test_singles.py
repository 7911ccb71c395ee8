import random
import unittest

import helper
from helper import (INFINITY, LARGEST, LARGEST_BELOW_NORMAL, LEAST, LEAST_NORMAL, MINUS_INFINITY, MINUS_ONE, MINUS_ZERO,
                    NAN, NANS, ONE, SIGN, ZERO)
from floatmixer.singles import from_whole, is_below, is_no_number, minus, plus, times, told

TWO = 0x40000000
HALF = 0x3F000000
ONE_AND_HALF = 0x3FC00000


class SumTest(unittest.TestCase):
    def check(self, a, b, expected):
        self.assertEqual(plus(a, b), expected, (hex(a), hex(b)))
        self.assertEqual(plus(b, a), expected, (hex(b), hex(a)))
        self.assertEqual(minus(a, b ^ SIGN), expected, (hex(a), hex(b)))
        if expected not in (ZERO, MINUS_ZERO, NAN):
            self.assertEqual(plus(a ^ SIGN, b ^ SIGN), expected ^ SIGN, (hex(a), hex(b)))

    def test_zeros_keep_their_signs(self):
        self.check(ONE, MINUS_ONE, ZERO)
        self.check(ZERO, ZERO, ZERO)
        self.check(ZERO, MINUS_ZERO, ZERO)
        self.check(MINUS_ZERO, MINUS_ZERO, MINUS_ZERO)
        self.check(LEAST, LEAST | SIGN, ZERO)
        self.check(LARGEST, LARGEST | SIGN, ZERO)
        self.check(ONE, MINUS_ZERO, ONE)
        self.check(LEAST, ZERO, LEAST)
        self.assertEqual(minus(ZERO, ZERO), ZERO)
        self.assertEqual(minus(MINUS_ZERO, ZERO), MINUS_ZERO)
        self.assertEqual(minus(ZERO, MINUS_ZERO), ZERO)
        self.assertEqual(minus(MINUS_ZERO, MINUS_ZERO), ZERO)
        self.assertEqual(minus(ONE, ONE), ZERO)

    def test_below_the_least_normal(self):
        self.check(LEAST, LEAST, 2)
        self.check(LARGEST_BELOW_NORMAL, LEAST, LEAST_NORMAL)
        self.check(LEAST_NORMAL, LEAST | SIGN, LARGEST_BELOW_NORMAL)
        self.check(LEAST_NORMAL + 1, LEAST_NORMAL | SIGN, LEAST)
        self.check(LARGEST_BELOW_NORMAL, LARGEST_BELOW_NORMAL, 0x00FFFFFE)

    def test_halfway_goes_to_the_even_one(self):
        self.check(ONE, 0x33800000, ONE)
        self.check(ONE + 1, 0x33800000, ONE + 2)
        self.check(ONE, 0x33800001, ONE + 1)
        self.check(ONE + 1, 0x337FFFFF, ONE + 1)
        self.check(0x4B800000, ONE, 0x4B800000)
        self.check(0x4B800001, ONE, 0x4B800002)

    def test_far_smaller_number_changes_nothing_but_at_a_tie(self):
        self.check(ONE, LEAST, ONE)
        self.check(LARGEST, LEAST, LARGEST)
        # Below a power of two the next single is half as far: so the same small number is a tie on one side only.
        self.check(ONE, 0xB3000000, ONE)
        self.check(ONE, 0xB3000001, ONE - 1)

    def test_rounds_up_to_the_next_power_of_two(self):
        self.check(0x3FFFFFFF, 0x33800000, TWO)
        self.check(0x4B7FFFFF, HALF, 0x4B800000)

    def test_rounds_to_infinity_or_to_the_largest(self):
        self.check(LARGEST, LARGEST, INFINITY)
        self.check(LARGEST, 0x73000000, INFINITY)
        self.check(LARGEST, 0x72FFFFFF, LARGEST)
        self.check(LARGEST - 1, 0x73800000, LARGEST)

    def test_infinities(self):
        self.check(INFINITY, ONE, INFINITY)
        self.check(INFINITY, LARGEST | SIGN, INFINITY)
        self.check(INFINITY, INFINITY, INFINITY)
        self.check(MINUS_INFINITY, MINUS_INFINITY, MINUS_INFINITY)
        self.check(INFINITY, MINUS_INFINITY, NAN)
        self.assertEqual(minus(INFINITY, INFINITY), NAN)
        self.assertEqual(minus(ONE, INFINITY), MINUS_INFINITY)

    def test_no_numbers(self):
        for nan in NANS:
            for other in (ZERO, MINUS_ZERO, ONE, LEAST, INFINITY, MINUS_INFINITY) + NANS:
                self.check(nan, other, NAN)


class ProductTest(unittest.TestCase):
    def check(self, a, b, expected):
        self.assertEqual(times(a, b), expected, (hex(a), hex(b)))
        self.assertEqual(times(b, a), expected, (hex(b), hex(a)))
        if expected != NAN:
            self.assertEqual(times(a ^ SIGN, b), expected ^ SIGN, (hex(a), hex(b)))
            self.assertEqual(times(a ^ SIGN, b ^ SIGN), expected, (hex(a), hex(b)))

    def test_zeros_keep_their_signs(self):
        self.check(ZERO, ZERO, ZERO)
        self.check(ZERO, MINUS_ZERO, MINUS_ZERO)
        self.check(MINUS_ZERO, MINUS_ZERO, ZERO)
        self.check(ZERO, MINUS_ONE, MINUS_ZERO)
        self.check(MINUS_ZERO, LARGEST, MINUS_ZERO)

    def test_below_the_least_normal(self):
        self.check(LEAST, ONE, LEAST)
        self.check(LEAST_NORMAL, HALF, 0x00400000)
        self.check(LARGEST_BELOW_NORMAL, TWO, 0x00FFFFFE)
        self.check(LEAST, LARGEST, 0x34FFFFFF)
        self.check(0x00FFFFFF, HALF, LEAST_NORMAL)
        self.check(0x00FFFFFE, HALF, LARGEST_BELOW_NORMAL)
        self.check(0x00800001, 0x3F7FFFFE, LEAST_NORMAL)

    def test_too_small_becomes_a_zero_or_the_least(self):
        self.check(LEAST, HALF, ZERO)
        self.check(LEAST, HALF + 1, LEAST)
        self.check(LEAST, HALF | SIGN, MINUS_ZERO)
        self.check(LEAST, ONE_AND_HALF, 2)
        self.check(3, HALF, 2)
        self.check(5, HALF, 2)
        self.check(LEAST, LEAST, ZERO)
        self.check(LEAST, LEAST | SIGN, MINUS_ZERO)
        self.check(LEAST_NORMAL, LEAST_NORMAL, ZERO)

    def test_halfway_goes_to_the_even_one(self):
        self.check(ONE + 1, ONE_AND_HALF, 0x3FC00002)
        self.check(ONE + 3, ONE_AND_HALF, 0x3FC00004)
        self.check(0x3F800800, 0x3F800800, 0x3F801000)
        self.check(0x3F801800, 0x3F800800, 0x3F802002)

    def test_rounds_up_to_the_next_power_of_two(self):
        self.check(0x3F800001, 0x3F7FFFFF, ONE)
        self.check(0x3FFFFFFF, 0x3F800001, TWO)
        self.check(0x3FFFFFFE, 0x3F800001, TWO)

    def test_rounds_to_infinity_or_to_the_largest(self):
        self.check(LARGEST, TWO, INFINITY)
        self.check(LARGEST, ONE + 1, INFINITY)
        self.check(LARGEST, LARGEST, INFINITY)
        self.check(LARGEST, ONE, LARGEST)
        self.check(0x7F000000, 0x3FFFFFFF, LARGEST)
        self.check(0x7F000000, TWO, INFINITY)
        self.check(0x5F800000, 0x5F7FFFFF, LARGEST)
        self.check(0x5F800000, 0x5F800000, INFINITY)
        self.check(0x7F7FFFFE, ONE + 1, INFINITY)
        self.check(0x7F7FFFFC, ONE + 1, LARGEST - 1)

    def test_infinities(self):
        self.check(INFINITY, ONE, INFINITY)
        self.check(INFINITY, MINUS_INFINITY, MINUS_INFINITY)
        self.check(INFINITY, LEAST, INFINITY)
        self.check(INFINITY, ZERO, NAN)
        self.check(INFINITY, MINUS_ZERO, NAN)
        self.check(MINUS_INFINITY, ZERO, NAN)

    def test_no_numbers(self):
        for nan in NANS:
            for other in (ZERO, MINUS_ZERO, ONE, LEAST, INFINITY, MINUS_INFINITY) + NANS:
                self.check(nan, other, NAN)


class AgainstPythonsFloatsTest(unittest.TestCase):
    def check(self, a, b):
        self.assertEqual(plus(a, b), helper.add(a, b), (hex(a), hex(b)))
        self.assertEqual(minus(a, b), helper.subtract(a, b), (hex(a), hex(b)))
        self.assertEqual(times(a, b), helper.multiply(a, b), (hex(a), hex(b)))
        self.assertEqual(is_below(a, b), helper.value(a) < helper.value(b), (hex(a), hex(b)))

    def test_edges_with_edges(self):
        for a in helper.BOTH_SIGNS_OF_EDGES + NANS:
            for b in helper.BOTH_SIGNS_OF_EDGES + NANS:
                self.check(a, b)

    def test_any_bits(self):
        source = random.Random(1)
        for _ in range(20000):
            self.check(source.getrandbits(32), source.getrandbits(32))

    def test_sizes_near_one_another(self):
        source = random.Random(2)
        for _ in range(20000):
            a = source.getrandbits(32)
            field = min(max((a >> 23 & 255) + source.randint(-26, 26), 0), 254)
            self.check(a, source.getrandbits(1) << 31 | field << 23 | source.getrandbits(23))

    def test_products_near_both_ends(self):
        source = random.Random(3)
        for _ in range(20000):
            a_field = source.randint(0, 254)
            end = source.choice((127, 127 - 23, 127 + 254))
            b_field = min(max(end - a_field + source.randint(-3, 3), 0), 254)
            self.check(a_field << 23 | source.getrandbits(23),
                       b_field << 23 | source.getrandbits(23) & source.getrandbits(23))


class OtherTest(unittest.TestCase):
    def test_comparison(self):
        self.assertTrue(is_below(MINUS_ONE, ONE))
        self.assertTrue(is_below(MINUS_INFINITY, LARGEST | SIGN))
        self.assertTrue(is_below(TWO | SIGN, MINUS_ONE))
        self.assertFalse(is_below(MINUS_ONE, TWO | SIGN))
        self.assertFalse(is_below(MINUS_ZERO, ZERO))
        self.assertFalse(is_below(ZERO, MINUS_ZERO))
        self.assertFalse(is_below(ONE, ONE))
        for nan in NANS:
            self.assertFalse(is_below(nan, ONE))
            self.assertFalse(is_below(ONE, nan))
            self.assertFalse(is_below(nan, nan))

    def test_told(self):
        self.assertTrue(all(is_no_number(nan) for nan in NANS))
        self.assertEqual(told(NANS), [-1] * len(NANS))
        self.assertEqual(told(helper.BOTH_SIGNS_OF_EDGES), list(helper.BOTH_SIGNS_OF_EDGES))

    def test_from_whole(self):
        for number in list(range(1000)) + [16777215, 16777217, 16777219]:
            self.assertEqual(from_whole(number), helper.bits_of(float(number)))


if __name__ == "__main__":
    unittest.main()
