import random
import unittest

import helper
from helper import (INFINITY, LEAST, MINUS_ONE, MINUS_ZERO, NANS, ONE, ZERO, answers_of, echo, singles)

PLACES = 8192
OUTSIDE = (-2147483648, -8192, -1, 0, 8193, 16384, 2147483647)


def quiet(size):
    return [ZERO] * size


def numbered(first, size):
    return singles(*[float(k) for k in range(first, first + size)])


class EchoTest(unittest.TestCase):
    def test_ordinary(self):
        half, quarter = singles(0.5, 0.25)
        found = answers_of(echo(2, half, quarter, singles(8, 4, 0, 0, 0, 0)))
        # The line gets 8, 4, 4, 2, 2, 1; a quarter of what came into it two places before is heard.
        self.assertEqual(found, [[0] + singles(8, 4, 2, 1, 1, 0.5)])

    def test_delay_of_one(self):
        found = answers_of(echo(1, ZERO, ONE, singles(1, 2, 3)), echo(1, ZERO, ONE, singles(4)))
        self.assertEqual(found, [[0] + singles(1, 3, 5), [0] + singles(7)])

    def test_back_and_wet_are_two_things(self):
        two, three = singles(2, 3)
        found = answers_of(echo(1, two, three, singles(1, 1, 1)))
        self.assertEqual(found, [[0] + singles(1, 4, 10)])

    def test_outside_is_refused(self):
        for d in OUTSIDE:
            self.assertEqual(answers_of(echo(d, ONE, ONE, singles(1))), [[-2]])
            self.assertEqual(answers_of(echo(d, ONE, ONE, [])), [[-2]])

    def test_refusal_leaves_the_line_and_its_place(self):
        first = echo(3, ONE, ONE, singles(1, 2, 3))
        last = echo(3, ONE, ONE, singles(10, 20, 30, 40))
        for d in OUTSIDE:
            found = answers_of(first, echo(d, ONE, ONE, singles(7, 7, 7, 7)), last)
            self.assertEqual(found[1], [-2])
            self.assertEqual(found[2], answers_of(first, last)[1])
            self.assertEqual(found[2], [0] + singles(11, 22, 33, 51))

    def test_no_samples(self):
        found = answers_of(echo(1, ONE, ONE, singles(5)), echo(8192, ONE, ONE, []), echo(1, ONE, ONE, singles(0)))
        self.assertEqual(found[1:], [[0], [0] + singles(5)])

    def test_line_goes_round_its_end(self):
        # The second time round the place of each sample is read back by the longest delay and by the shortest.
        calls = [echo(PLACES, ZERO, ONE, numbered(1 + 1000 * k, 1000)) for k in range(9)]
        found = answers_of(*calls)
        for k in range(8):
            self.assertEqual(found[k], [0] + numbered(1 + 1000 * k, 1000))
        expected = [8001.0 + k for k in range(192)] + [8193.0 + k + 1 + k for k in range(808)]
        self.assertEqual(found[8], [0] + singles(*expected))

    def test_longest_delay_reads_the_place_before_it_is_put(self):
        calls = [echo(PLACES, ONE, ONE, singles(3))]
        calls += [echo(1, ZERO, ZERO, quiet(1000))] * 8 + [echo(1, ZERO, ZERO, quiet(191))]
        calls += [echo(PLACES, ONE, ONE, singles(4)), echo(1, ZERO, ONE, singles(0))]
        self.assertEqual(answers_of(*calls)[-2:], [[0] + singles(7), [0] + singles(7)])

    def test_one_place_less_than_the_longest(self):
        calls = [echo(1, ZERO, ZERO, singles(3))]
        calls += [echo(1, ZERO, ZERO, quiet(1000))] * 8 + [echo(1, ZERO, ZERO, quiet(190))]
        calls += [echo(PLACES - 1, ZERO, ONE, singles(4, 5))]
        self.assertEqual(answers_of(*calls)[-1], [0] + singles(7, 5))

    def test_short_delay_over_the_end(self):
        calls = [echo(1, ZERO, ZERO, numbered(1000 * k, 1000)) for k in range(8)]
        calls += [echo(1, ZERO, ZERO, numbered(8000, 190))]
        calls += [echo(5, ZERO, ONE, quiet(8))]
        self.assertEqual(answers_of(*calls)[-1], [0] + singles(8185, 8186, 8187, 8188, 8189, 0, 0, 0))

    def test_delays_change_from_call_to_call(self):
        found = answers_of(echo(1, ZERO, ZERO, singles(1, 2, 3, 4)), echo(4, ZERO, ONE, singles(0)),
                           echo(2, ZERO, ONE, singles(0)))
        self.assertEqual(found[1:], [[0] + singles(1), [0] + singles(4)])

    def test_products_are_rounded_by_themselves(self):
        root, square = 0x3F800800, 0xBF801000
        found = answers_of(echo(1, root, root, [root, square, ZERO]))
        self.assertEqual(found, [[0, root, ZERO, ZERO]])

    def test_zeros_keep_their_signs(self):
        self.assertEqual(answers_of(echo(1, ONE, ONE, [MINUS_ZERO])), [[0, ZERO]])
        self.assertEqual(answers_of(echo(1, ONE, MINUS_ONE, [MINUS_ZERO])), [[0, MINUS_ZERO]])
        # What is put into the line is the zero below too: it makes the next sample's zero.
        self.assertEqual(answers_of(echo(1, MINUS_ONE, ONE, [MINUS_ZERO, MINUS_ZERO])), [[0, ZERO, MINUS_ZERO]])

    def test_infinite_times_the_empty_line(self):
        self.assertEqual(answers_of(echo(1, ZERO, INFINITY, [ONE, ONE])), [[0, -1, INFINITY]])
        self.assertEqual(answers_of(echo(1, INFINITY, ZERO, [ONE, ONE])), [[0, ONE, -1]])

    def test_no_numbers_are_told_as_minus_one(self):
        for nan in NANS:
            self.assertEqual(answers_of(echo(2, ONE, ONE, [nan, ONE, ONE])), [[0, -1, ONE, -1]])
            self.assertEqual(answers_of(echo(1, nan, ZERO, [ONE, ONE])), [[0, ONE, -1]])
            self.assertEqual(answers_of(echo(1, ZERO, nan, [ONE])), [[0, -1]])

    def test_least_numbers(self):
        self.assertEqual(answers_of(echo(1, ONE, ONE, [LEAST, LEAST, LEAST])), [[0, 1, 2, 3]])

    def test_against_the_model(self):
        source = random.Random(21)
        for _ in range(6):
            model = helper.ModelMixer()
            calls = []
            expected = []
            for _ in range(25):
                d = source.choice((0, 1, 2, 500, 4000, 8191, 8192, 8193, source.randint(1, 8192)))
                back, wet = singles(source.uniform(-1, 1), source.uniform(-1, 1))
                x = [helper.bits_of(source.uniform(-1, 1)) for _ in range(source.choice((0, 1, 999, 1000)))]
                calls.append(echo(d, back, wet, x))
                expected.append(model.echo(d, back, wet, x))
            self.assertEqual(answers_of(*calls), expected)


if __name__ == "__main__":
    unittest.main()
