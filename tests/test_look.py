import random
import unittest

import helper
from helper import (INFINITY, LARGEST, LARGEST_BELOW_NORMAL, LEAST, LEAST_NORMAL, MINUS_INFINITY, MINUS_ONE, MINUS_ZERO,
                    NANS, ONE, SIGN, ZERO, answers_of, bits_of_double, kinds_of_numbers, look, singles)
from floatmixer.doubles import double, rounded_double

DOUBLE_INFINITY = 0x7FF0000000000000
# Its square is 2 ** 54: the next double above is greater by 4.
WIDE = 2.0 ** 27


class PeakTest(unittest.TestCase):
    def check(self, x, expected):
        self.assertEqual(answers_of(look(x))[0][:2], [0, expected])

    def test_greatest_size(self):
        self.check(singles(1, 3, 2), singles(3)[0])
        self.check(singles(1, -3, 2), singles(3)[0])
        self.check(singles(-1, -0.5, -0.25), ONE)
        self.check([ONE, ONE + 1, ONE - 1], ONE + 1)
        self.check([LEAST | SIGN], LEAST)
        self.check([LARGEST | SIGN, LARGEST - 1], LARGEST)

    def test_place_makes_no_difference(self):
        for place in range(10):
            x = singles(1, 2, 3, 4, 5, 4, 3, 2, 1, 0)
            x[place] = singles(-9)[0]
            self.check(x, singles(9)[0])

    def test_none_above_zero(self):
        self.check([], ZERO)
        self.check([ZERO], ZERO)
        self.check([MINUS_ZERO], ZERO)
        self.check([MINUS_ZERO, ZERO, MINUS_ZERO], ZERO)

    def test_no_number_counts_for_nothing(self):
        for nan in NANS:
            self.check([nan], ZERO)
            self.check([nan, nan, nan, nan, nan], ZERO)
            self.check([nan, MINUS_ZERO], ZERO)
            self.check([nan, MINUS_ONE, LEAST], ONE)
            self.check([MINUS_ONE, nan], ONE)
            self.check([ONE, nan, singles(-2)[0]], singles(2)[0])
            self.check([nan, MINUS_INFINITY], INFINITY)

    def test_infinities(self):
        self.check([LARGEST, INFINITY], INFINITY)
        self.check([MINUS_INFINITY, ONE], INFINITY)


class SquaresTest(unittest.TestCase):
    def check(self, x, expected):
        """expected: the double as Python's float."""
        self.assertEqual(answers_of(look(x))[0][2:], [bits_of_double(expected)])

    def check_lanes(self, first, second, third, fourth, expected):
        """Of the numbers that go into each of the four sums."""
        lanes = (first, second, third, fourth)
        x = [ZERO] * (4 * max(len(lane) for lane in lanes))
        for k, lane in enumerate(lanes):
            x[k:k + 4 * len(lane):4] = lane
        self.check(x, expected)

    def check_lane(self, lane, expected):
        """The same numbers in each of the sums, the others being empty."""
        self.check_lanes(lane, [], [], [], expected)
        self.check_lanes([], lane, [], [], expected)
        self.check_lanes([], [], lane, [], expected)
        self.check_lanes([], [], [], lane, expected)

    def test_very_bits(self):
        self.assertEqual(answers_of(look([])), [[0, 0, 0]])
        self.assertEqual(answers_of(look([MINUS_ONE])), [[0, ONE, 0x3FF0000000000000]])
        self.assertEqual(answers_of(look([0x40400000])), [[0, 0x40400000, 0x4022000000000000]])
        self.assertEqual(answers_of(look([LEAST])), [[0, LEAST, 0x2D50000000000000]])
        self.assertEqual(answers_of(look([LARGEST])), [[0, LARGEST, 0x4FEFFFFFC0000020]])

    def test_fewer_than_four(self):
        self.check(singles(3), 9.0)
        self.check(singles(3, -4), 25.0)
        self.check(singles(-3, 4, 12), 169.0)
        self.check(singles(1, 2, 3, 4), 30.0)

    def test_zeros(self):
        self.check([ZERO], 0.0)
        self.check([MINUS_ZERO], 0.0)
        self.check([MINUS_ZERO] * 9, 0.0)

    def test_square_is_not_rounded_to_a_single(self):
        self.check([ONE + 1], 1 + 2.0 ** -22 + 2.0 ** -46)

    def test_each_sum_takes_every_fourth(self):
        # The wide number swallows what is added to its own sum behind it, one by one.
        self.check(singles(WIDE, 0, 0, 0, 1, 0, 0, 0, 1, 0, 0, 0, 1), 2.0 ** 54)
        self.check(singles(1, 0, 0, 0, 1, 0, 0, 0, 1, 0, 0, 0, WIDE), 2.0 ** 54 + 4)
        # What is in a sum of its own is added to it in one.
        self.check(singles(WIDE, 1, 0, 0, 0, 1, 0, 0, 0, 1), 2.0 ** 54 + 4)
        self.check(singles(WIDE, 0, 1, 0, 0, 0, 1, 0, 0, 0, 1), 2.0 ** 54 + 4)
        self.check(singles(WIDE, 0, 0, 1, 0, 0, 0, 1, 0, 0, 0, 1), 2.0 ** 54 + 4)

    def test_order_in_which_the_four_are_added(self):
        wide, one, two = singles(WIDE), singles(1), singles(1, 1)
        # It's a 3 beside the wide one that counts; a 1 is lost, and so is a 2, which is halfway.
        self.check_lanes(wide, one, one, two, 2.0 ** 54 + 4)
        self.check_lanes(wide, one, two, one, 2.0 ** 54 + 4)
        self.check_lanes(wide, two, one, one, 2.0 ** 54)
        self.check_lanes(one, wide, one, two, 2.0 ** 54 + 4)
        self.check_lanes(two, wide, one, one, 2.0 ** 54)
        self.check_lanes(one, two, wide, one, 2.0 ** 54 + 4)
        self.check_lanes(one, one, wide, two, 2.0 ** 54)
        self.check_lanes(one, two, one, wide, 2.0 ** 54 + 4)
        self.check_lanes(one, one, two, wide, 2.0 ** 54)

    def test_more_than_eight(self):
        self.check(singles(1, 2, 3, 4, 5, 6, 7, 8, 9), 285.0)
        self.check(singles(1, 2, 3, 4, 5, 6, 7, 8, 9, 10), 385.0)
        self.check(singles(1, 2, 3, 4, 5, 6, 7, 8, 9, 10, 11), 506.0)

    def test_below_the_least_normal_single(self):
        self.check([LEAST], 2.0 ** -298)
        self.check([3], 9 * 2.0 ** -298)
        self.check([LEAST | SIGN] * 5, 5 * 2.0 ** -298)
        self.check([LARGEST_BELOW_NORMAL], ((2.0 ** 23 - 1) * 2.0 ** -149) ** 2)
        self.check([LEAST_NORMAL, LEAST], 2.0 ** -252 + 2.0 ** -298)

    def test_largest_single(self):
        square = (2.0 ** 24 - 1) ** 2 * 2.0 ** 208
        self.check([LARGEST], square)
        self.check([LARGEST | SIGN] * 4, 4 * square)
        # It swallows all that is far smaller.
        self.check([LARGEST, ONE, ONE, ONE, ONE], square)

    def test_sums_are_rounded(self):
        root = 2.0 ** 26
        # Nothing is lost as long as there is room.
        self.check_lane(singles(root, 1), 2.0 ** 52 + 1)
        # Halfway, to the even one: down, and up.
        self.check_lane(singles(root, root, 1), 2.0 ** 53)
        self.check_lane(singles(1, 1, root, root, 1), 2.0 ** 53 + 4)
        # Just beside halfway.
        self.check_lane(singles(root, root) + [ONE + 1], 2.0 ** 53 + 2)
        self.check_lane(singles(1, 1, root, root) + [ONE - 1], 2.0 ** 53 + 2)

    def test_sums_of_sums_are_rounded(self):
        root = 2.0 ** 26
        even, odd, one = singles(root, root), singles(1, 1, root, root), singles(1)
        self.check_lanes(even, one, [], [], 2.0 ** 53)
        self.check_lanes(odd, one, [], [], 2.0 ** 53 + 4)
        self.check_lanes([], [], even, one, 2.0 ** 53)
        self.check_lanes([], [], odd, one, 2.0 ** 53 + 4)
        self.check_lanes(even, [], one, [], 2.0 ** 53)
        self.check_lanes(odd, [], one, [], 2.0 ** 53 + 4)

    def test_infinities(self):
        for infinity in (INFINITY, MINUS_INFINITY):
            for place in range(6):
                x = singles(1, 2, 3, 4, 5, 6)
                x[place] = infinity
                self.assertEqual(answers_of(look(x)), [[0, INFINITY, DOUBLE_INFINITY]])
        self.assertEqual(answers_of(look([INFINITY, MINUS_INFINITY])), [[0, INFINITY, DOUBLE_INFINITY]])
        self.assertEqual(answers_of(look([INFINITY, ZERO])), [[0, INFINITY, DOUBLE_INFINITY]])

    def test_no_numbers_are_told_as_minus_one(self):
        for nan in NANS:
            self.assertEqual(answers_of(look([nan])), [[0, ZERO, -1]])
            self.assertEqual(answers_of(look([INFINITY, nan])), [[0, INFINITY, -1]])
            for place in range(6):
                x = singles(6, 6, 6, 6, 6, 6)
                x[place] = nan
                self.assertEqual(answers_of(look(x)), [[0, singles(6)[0], -1]])


class LookTest(unittest.TestCase):
    def check(self, x):
        self.assertEqual(answers_of(look(x)), [helper.ModelMixer().look(x)])

    def test_as_many_as_there_may_be(self):
        self.check([helper.bits_of((k * 37 % 101 - 50) / 7) for k in range(1000)])
        self.check([LARGEST] * 1000)
        self.check([LARGEST_BELOW_NORMAL] * 999)

    def test_against_the_model(self):
        source = random.Random(81)
        for number in kinds_of_numbers(source):
            for size in list(range(14)) * 8 + [50, 51, 52, 53]:
                self.check([number() for _ in range(size)])

    def test_double_rounding_against_pythons_floats(self):
        source = random.Random(82)
        for bits in range(1, 120):
            for _ in range(20):
                count = source.getrandbits(bits) | 1 << (bits - 1)
                expected = bits_of_double(float(count) * 2.0 ** -298)
                self.assertEqual(double(rounded_double(count)), expected, count)


if __name__ == "__main__":
    unittest.main()
