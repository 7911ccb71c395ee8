import random
import unittest

import helper
from helper import (INFINITY, LARGEST, LARGEST_BELOW_NORMAL, LEAST, LEAST_NORMAL, MINUS_INFINITY, MINUS_ONE, MINUS_ZERO,
                    NANS, ONE, SIGN, ZERO, answers_of, from16, kinds_of_numbers, singles, to16)


def samples(*numbers):
    """The singles that are so many times 1 / 32768."""
    return singles(*[number / 32768 for number in numbers])


class To16Test(unittest.TestCase):
    def check(self, x, expected):
        self.assertEqual(answers_of(to16(x)), [[0] + expected])

    def test_no_numbers(self):
        self.check([], [])

    def test_whole_numbers(self):
        numbers = [0, 1, 2, -1, -2, 100, -100, 32766, 32767, -32767, -32768]
        self.check(samples(*numbers), numbers)

    def test_minus_one_is_a_whole_number_here(self):
        self.check([0xB8000000, NANS[0], 0xB8000000], [-1, 0, -1])

    def test_halves_go_to_the_even_one(self):
        self.check(samples(0.5, 1.5, 2.5, 3.5, 1000.5, 1001.5), [0, 2, 2, 4, 1000, 1002])
        self.check(samples(-0.5, -1.5, -2.5, -3.5, -1000.5, -1001.5), [0, -2, -2, -4, -1000, -1002])
        self.check(samples(32765.5, 32766.5, -32766.5, -32767.5), [32766, 32766, -32766, -32768])

    def test_just_beside_halves(self):
        for half, less, more in ((0.5, 0, 1), (1.5, 1, 2), (2.5, 2, 3), (1000.5, 1000, 1001), (32766.5, 32766, 32767)):
            bits = samples(half)[0]
            self.check([bits - 1, bits + 1], [less, more])
            self.check([bits - 1 | SIGN, bits + 1 | SIGN], [-less, -more])

    def test_at_and_beyond_both_ends(self):
        self.check(samples(32767, 32767.25, 32767.5, 32767.75, 32768, 32769, 1e6), [32767] * 7)
        self.check(samples(-32768, -32768.25, -32768.5, -32768.75, -32769, -1e6), [-32768] * 6)
        self.check([ONE, MINUS_ONE, ONE - 1, MINUS_ONE - 1], [32767, -32768, 32767, -32768])
        self.check(samples(-32767.25, -32767.75, 32766.75), [-32767, -32768, 32767])

    def test_infinite_products(self):
        self.check([LARGEST, LARGEST | SIGN, 0x78000000, 0xF8000000, 0x77FFFFFF], [32767, -32768, 32767, -32768, 32767])

    def test_infinities(self):
        self.check([INFINITY, MINUS_INFINITY], [32767, -32768])

    def test_no_numbers_become_zero(self):
        self.check(list(NANS), [0] * len(NANS))

    def test_zeros_and_the_least(self):
        self.check([ZERO, MINUS_ZERO], [0, 0])
        self.check([LEAST, LEAST | SIGN, LARGEST_BELOW_NORMAL, LARGEST_BELOW_NORMAL | SIGN, LEAST_NORMAL], [0] * 5)

    def test_as_many_as_there_may_be(self):
        self.check(samples(*[k * 65.5 - 32750 for k in range(1000)]), [round(k * 65.5 - 32750) for k in range(1000)])

    def test_quarters_against_the_model(self):
        source = random.Random(91)
        for _ in range(40):
            x = samples(*[source.randint(-140000, 140000) / 4 for _ in range(200)])
            self.check(x, helper.ModelMixer().to16(x)[1:])

    def test_against_the_model(self):
        source = random.Random(92)
        for number in kinds_of_numbers(source):
            x = [number() for _ in range(1000)]
            self.check(x, helper.ModelMixer().to16(x)[1:])


class From16Test(unittest.TestCase):
    def check(self, x, expected):
        self.assertEqual(answers_of(from16(x)), [[0] + expected])

    def test_no_numbers(self):
        self.check([], [])

    def test_very_bits(self):
        self.check([-32768, -1, 0, 1, 32767], [0xBF800000, 0xB8000000, 0x00000000, 0x38000000, 0x3F7FFE00])
        self.check([-32767, -16384, -3, 2, 3, 16384], [0xBF7FFE00, 0xBF000000, 0xB8C00000, 0x38800000, 0x38C00000,
                                                      0x3F000000])

    def test_every_number_there_and_back(self):
        for start in range(-32768, 32768, 16384):
            rows = [list(range(first, min(first + 1000, start + 16384))) for first in range(start, start + 16384, 1000)]
            found = answers_of(*[from16(row) for row in rows])
            self.assertEqual(found, [[0] + samples(*row) for row in rows])
            self.assertEqual(answers_of(*[to16(answer[1:]) for answer in found]), [[0] + row for row in rows])


if __name__ == "__main__":
    unittest.main()
