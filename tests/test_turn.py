import random
import unittest

import helper
from helper import (BIG, INFINITY, LARGEST, LEAST, MINUS_INFINITY, MINUS_ONE, MINUS_ROUNDED_SQUARE, MINUS_ZERO, NANS,
                    ONE, ROOT, SIGN, ZERO, answers_of, kinds_of_numbers, singles, turn)

ROUNDED_SQUARE = MINUS_ROUNDED_SQUARE ^ SIGN


def only(place, size):
    """A row with 1 at the place and zeros else."""
    numbers = [ZERO] * size
    numbers[place] = ONE
    return numbers


def product(w, v):
    """The table's number times the other one: what is added to zeros."""
    found = answers_of(turn(1, [ZERO, v[0]], [ZERO, v[1]], [w[0]], [w[1]]))[0]
    return [found[1], found[3]]


class TurnTest(unittest.TestCase):
    def check(self, k, re, im, wre, wim, expected_re, expected_im):
        self.assertEqual(answers_of(turn(k, re, im, wre, wim)), [[0] + expected_re + expected_im])

    def check_pair(self, u, v, w, first, second):
        """Of k 1: each argument is a real and another part."""
        self.check(1, [u[0], v[0]], [u[1], v[1]], [w[0]], [w[1]], [first[0], second[0]], [first[1], second[1]])

    def test_one_number(self):
        for bits in helper.BOTH_SIGNS_OF_EDGES:
            self.check(0, [bits], [bits ^ SIGN], [], [], [bits], [bits ^ SIGN])
        for nan in NANS:
            self.check(0, [nan], [ONE], [], [], [-1], [ONE])
            self.check(0, [ONE], [nan], [], [], [ONE], [-1])

    def test_two_numbers(self):
        # t is (3 + 4 i) (5 + 6 i) = -9 + 38 i.
        self.check_pair(singles(1, 2), singles(3, 4), singles(5, 6), singles(-8, 40), singles(10, -36))

    def test_each_of_the_four_products(self):
        zero = singles(0, 0)
        self.check_pair(zero, singles(3, 0), singles(5, 0), singles(15, 0), singles(-15, 0))
        self.check_pair(zero, singles(0, 3), singles(0, 5), singles(-15, 0), singles(15, 0))
        self.check_pair(zero, singles(0, 3), singles(5, 0), singles(0, 15), singles(0, -15))
        self.check_pair(zero, singles(3, 0), singles(0, 5), singles(0, 15), singles(0, -15))

    def test_four_numbers(self):
        self.check(2, singles(1, 2, 3, 4), singles(0, 0, 0, 0), singles(1, 0), singles(0, -1),
                   singles(10, -2, -2, -2), singles(0, 2, 0, -2))
        # A table of its own: by the factor 3 the numbers become -2, 4, 8, -4, and then by 3 and by 5 what they are.
        self.check(2, singles(1, 2, -1, 2), singles(0, 0, 0, 0), singles(3, 5), singles(0, 0),
                   singles(22, -16, -26, 24), singles(0, 0, 0, 0))

    def test_eight_numbers_and_the_table(self):
        wre, wim = singles(1, 2, 3, 5), singles(0, 0, 0, 0)
        zeros = [ZERO] * 8
        by_place = {
            0: singles(1, 1, 1, 1, 1, 1, 1, 1),
            1: singles(1, 2, 3, 5, -1, -2, -3, -5),
            2: singles(1, 3, -1, -3, 1, 3, -1, -3),
            3: singles(1, 6, -3, -15, -1, -6, 3, 15),
            4: singles(1, -1, 1, -1, 1, -1, 1, -1),
            5: singles(1, -2, 3, -5, -1, 2, -3, 5),
            6: singles(1, -3, -1, 3, 1, -3, -1, 3),
            7: singles(1, -6, -3, 15, -1, 6, 3, -15),
        }
        for place, expected in by_place.items():
            self.check(3, only(place, 8), zeros, wre, wim, expected, zeros)
            self.check(3, zeros, only(place, 8), wre, wim, zeros, expected)

    def test_tables_other_part(self):
        wre, wim = singles(1, 0, 0, 0), singles(0, 7, 8, 9)
        zeros = [ZERO] * 8
        self.check(3, only(1, 8), zeros, wre, wim, singles(1, 0, 0, 0, -1, 0, 0, 0), singles(0, 7, 8, 9, 0, -7, -8, -9))
        self.check(3, only(3, 8), zeros, wre, wim, singles(1, -56, 0, 72, -1, 56, 0, -72),
                   singles(0, 0, -8, 0, 0, 0, 8, 0))

    def test_first_number_of_the_table_is_taken_too(self):
        self.check(3, only(7, 8), [ZERO] * 8, singles(2, 3, 5, 7), [ZERO] * 4,
                   singles(8, -30, -20, 70, -8, 30, 20, -70), [ZERO] * 8)

    def test_as_many_as_there_may_be(self):
        zeros = [ZERO] * 1024
        table = [helper.bits_of(float(k + 1)) for k in range(512)]
        below = [bits | SIGN for bits in table]
        self.check(10, only(1, 1024), zeros, table, [ZERO] * 512, table + below, zeros)
        self.check(10, only(0, 1024), zeros, table, [ZERO] * 512, [ONE] * 1024, zeros)
        # 2 is turned by each second number of the table.
        half = table[::2] + below[::2]
        self.check(10, only(2, 1024), zeros, table, [ZERO] * 512, half + half, zeros)

    def test_ten_bits_against_the_model(self):
        source = random.Random(111)
        rows = [[helper.bits_of(source.uniform(-1, 1)) for _ in range(size)] for size in (1024, 1024, 512, 512)]
        self.assertEqual(answers_of(turn(10, *rows)), [helper.ModelMixer().turn(10, *rows)])

    def test_products_are_rounded_by_themselves(self):
        # Each time the square of ROOT is rounded to what the other product is, and nothing is left.
        self.assertEqual(product([ROOT, ROUNDED_SQUARE], [ROOT, ONE])[0], ZERO)
        self.assertEqual(product([ROUNDED_SQUARE, ROOT], [ONE, ROOT])[0], ZERO)
        self.assertEqual(product([ROOT, MINUS_ROUNDED_SQUARE], [ONE, ROOT])[1], ZERO)
        self.assertEqual(product([ROUNDED_SQUARE, ROOT], [ROOT, MINUS_ONE])[1], ZERO)

    def test_t_is_rounded_ahead_of_u(self):
        self.check_pair(singles(BIG, BIG), singles(1, 0), singles(1, 0), singles(BIG, BIG), singles(BIG - 1, BIG))
        # t is 1 + 1 = 2 ahead of u; one by one each 1 would be lost.
        self.check_pair(singles(BIG, BIG), singles(1, -1), singles(1, 1), singles(BIG + 2, BIG), singles(BIG - 2, BIG))
        self.check_pair(singles(BIG, BIG), singles(1, 1), singles(1, 1), singles(BIG, BIG + 2), singles(BIG, BIG - 2))
        # t is rounded: BIG + 1 is BIG.
        self.check_pair(singles(-BIG, 0), singles(BIG, -1), singles(1, 1), singles(0, BIG - 1),
                        singles(-2 * BIG, 1 - BIG))

    def test_zeros_keep_their_signs(self):
        below = [MINUS_ZERO, MINUS_ZERO]
        self.check_pair(below, below, [ONE, MINUS_ZERO], [MINUS_ZERO, ZERO], [ZERO, MINUS_ZERO])
        self.check_pair(below, below, [ONE, ZERO], [ZERO, MINUS_ZERO], [MINUS_ZERO, ZERO])
        self.check_pair([ZERO, ZERO], below, [ONE, MINUS_ZERO], [ZERO, ZERO], [ZERO, ZERO])
        self.check_pair(below, [ZERO, ZERO], [ONE, ZERO], [ZERO, ZERO], [MINUS_ZERO, MINUS_ZERO])
        self.check_pair([ONE, ONE], [ONE, ONE], [ONE, ZERO], singles(2, 2), [ZERO, ZERO])

    def test_least_numbers(self):
        self.check_pair([LEAST, 2], [LEAST, LEAST], [ONE, ZERO], [2, 3], [ZERO, LEAST])
        self.check_pair([ZERO, ZERO], [LEAST, 3], singles(0.5, 0), [ZERO, 2], [ZERO, 2 | SIGN])

    def test_too_large(self):
        self.check_pair([LARGEST, ONE], [LARGEST, ONE], [ONE, ZERO], [INFINITY, 0x40000000], [ZERO, ZERO])
        self.check_pair([ONE, ONE], [LARGEST, ZERO], singles(2, 0), [INFINITY, ONE], [MINUS_INFINITY, ONE])
        self.check_pair([ONE, ONE], [LARGEST, LARGEST], singles(2, 2), [-1, INFINITY], [-1, MINUS_INFINITY])

    def test_infinities(self):
        self.check_pair([INFINITY, ONE], [ONE, ZERO], [ONE, ZERO], [INFINITY, ONE], [INFINITY, ONE])
        self.check_pair([INFINITY, ONE], [INFINITY, ONE], [ONE, ONE], [INFINITY, INFINITY], [-1, MINUS_INFINITY])
        self.check_pair([ZERO, ZERO], [ONE, ZERO], [INFINITY, ZERO], [INFINITY, -1], [MINUS_INFINITY, -1])
        self.check_pair([ZERO, ZERO], [MINUS_INFINITY, ONE], [ONE, ZERO], [MINUS_INFINITY, -1], [INFINITY, -1])

    def test_no_numbers_are_told_as_minus_one(self):
        for nan in NANS:
            self.check_pair([nan, ONE], [ONE, ONE], [ONE, ZERO], [-1, 0x40000000], [-1, ZERO])
            self.check_pair([ONE, nan], [ONE, ONE], [ONE, ZERO], [0x40000000, -1], [ZERO, -1])
            self.check_pair([ONE, ONE], [nan, ONE], [ONE, ZERO], [-1, -1], [-1, -1])
            self.check_pair([ONE, ONE], [ONE, nan], [ONE, ZERO], [-1, -1], [-1, -1])
            self.check_pair([ONE, ONE], [ONE, ONE], [nan, ZERO], [-1, -1], [-1, -1])
            self.check_pair([ONE, ONE], [ONE, ONE], [ZERO, nan], [-1, -1], [-1, -1])

    def test_no_number_in_the_table_spoils_its_own_places_alone(self):
        for nan in NANS:
            self.check(2, singles(1, 2, 3, 4), singles(0, 0, 0, 0), [ONE, nan], [ZERO, ZERO],
                       [singles(10)[0], -1, singles(-2)[0], -1], [ZERO, -1, ZERO, -1])

    def test_against_the_model(self):
        source = random.Random(112)
        for number in kinds_of_numbers(source):
            for k in (0, 1, 1, 2, 2, 3, 3, 4, 5) * 6:
                rows = [[number() for _ in range(size)] for size in (1 << k, 1 << k, 1 << k >> 1, 1 << k >> 1)]
                self.assertEqual(answers_of(turn(k, *rows)), [helper.ModelMixer().turn(k, *rows)])


if __name__ == "__main__":
    unittest.main()
