import random
import unittest

import helper
from helper import (INFINITY, LEAST, MINUS_INFINITY, MINUS_ONE, MINUS_ZERO, NANS, ONE, ZERO, answers_of, run, singles, voice)

OUTSIDE = (-2147483648, -17, -16, -1, 16, 17, 2147483647)
TWO = 0x40000000


def settings(p0=0.0, p1=0.0, p2=0.0, p3=0.0, p4=0.0, p5=1.0, p6=0.0, p7=1.0, p8=1.0):
    return singles(p0, p1, p2, p3, p4, p5, p6, p7, p8)


def plain_run(v, x):
    """A run onto rows of zeros."""
    return run(v, x, [ZERO] * len(x), [ZERO] * len(x))


def gains(p7, p8, count):
    """A voice's gain ahead of each of several samples of 1, as the left row tells it."""
    p = settings(p0=1.0)
    p[7] = p7
    p[8] = p8
    return answers_of(voice(0, p), plain_run(0, [ONE] * count))[1][1:1 + count]


class VoiceTest(unittest.TestCase):
    def test_is_set(self):
        for v in (0, 1, 7, 15):
            found = answers_of(voice(v, settings(p0=3.0)), plain_run(v, singles(1, 1)))
            self.assertEqual(found, [[0], [0] + singles(0, 3, 0, 0)])

    def test_outside_is_refused(self):
        for v in OUTSIDE:
            self.assertEqual(answers_of(voice(v, settings())), [[-2]])

    def test_refusal_changes_nothing(self):
        for v in OUTSIDE:
            calls = [voice(k, settings(p0=float(k))) for k in range(16)]
            calls += [voice(v, singles(9, 9, 9, 9, 9, 9, 9, 9, 9))]
            calls += [plain_run(k, singles(1, 1)) for k in range(16)]
            found = answers_of(*calls)
            self.assertEqual(found[16], [-2])
            self.assertEqual(found[17:], [[0] + singles(0, k, 0, 0) for k in range(16)])

    def test_each_voice_by_itself(self):
        calls = [voice(3, settings(p0=2.0)), plain_run(3, singles(1, 1)), plain_run(4, singles(1, 1))]
        self.assertEqual(answers_of(*calls)[2], [0] + singles(0, 0, 0, 0))

    def test_sets_the_nine_and_nothing_else(self):
        # Ahead of the second voice the gain is 2, 5 and 3 came last, and 5 and 3 went last.
        first = voice(0, settings(p0=1.0, p7=2.0))
        for p, left in ((settings(p1=1.0), 10), (settings(p2=1.0), 6), (settings(p3=1.0), -10), (settings(p4=1.0), -6)):
            found = answers_of(first, plain_run(0, singles(3, 5)), voice(0, p), plain_run(0, singles(1)))
            self.assertEqual(found[3], [0] + singles(left, 0))

    def test_all_zero_at_first(self):
        self.assertEqual(answers_of(plain_run(5, singles(1, 2, 3))), [[0] + singles(0, 0, 0, 0, 0, 0)])

    def test_second_setting_takes_the_first_ones_place(self):
        calls = [voice(0, settings(p0=2.0, p6=7.0)), voice(0, settings(p0=3.0)), plain_run(0, singles(1, 1))]
        self.assertEqual(answers_of(*calls)[2], [0] + singles(0, 3, 0, 0))


class RunTest(unittest.TestCase):
    def test_outside_is_refused(self):
        for v in OUTSIDE:
            self.assertEqual(answers_of(plain_run(v, singles(1))), [[-2]])
            self.assertEqual(answers_of(plain_run(v, [])), [[-2]])

    def test_refusal_changes_nothing(self):
        first = [voice(0, settings(p0=1.0, p1=0.5, p4=0.25, p8=0.125)), plain_run(0, singles(1, 2))]
        for v in OUTSIDE:
            self.assertEqual(answers_of(*first, plain_run(v, singles(5, 6)), plain_run(0, singles(3, 4)))[3],
                             answers_of(*first, plain_run(0, singles(3, 4)))[2])

    def test_no_samples(self):
        self.assertEqual(answers_of(voice(2, settings()), run(2, [], [], [])), [[0], [0]])

    def test_no_samples_leave_the_voice_as_it_was(self):
        found = answers_of(voice(2, settings(p0=1.0)), plain_run(2, []), plain_run(2, singles(1, 1)))
        self.assertEqual(found[2], [0] + singles(0, 1, 0, 0))

    def test_added_to_left_and_right(self):
        found = answers_of(voice(0, settings(p0=1.0, p5=2.0, p6=-3.0)),
                           run(0, singles(9, 1, 2), singles(10, 20, 30), singles(100, 200, 300)))
        self.assertEqual(found[1], [0] + singles(10, 22, 34, 100, 197, 294))

    def test_filter_by_what_came_and_went(self):
        p = settings(p0=1.0, p1=10.0, p2=100.0, p3=1000.0, p4=-3.0)
        # A gain that is 1 from the second sample on shows y itself there.
        x = (1, 2, 3, 4)
        y = []
        for k in range(4):
            came = [0, 0] + list(x[:k])
            went = [0, 0] + y
            y.append(x[k] + 10 * came[-1] + 100 * came[-2] - 1000 * went[-1] + 3 * went[-2])
        self.assertEqual(answers_of(voice(0, p), plain_run(0, singles(*x)))[1],
                         [0] + singles(0, y[1], y[2], y[3]) + singles(0, 0, 0, 0))

    def test_goes_on_from_run_to_run(self):
        p = settings(p0=0.5, p1=0.25, p2=-0.75, p3=0.125, p4=-0.5, p6=0.25, p8=0.0625)
        x = singles(1, 0.3, -7, 5, 0.1, 3.25)
        whole = answers_of(voice(1, p), plain_run(1, x))[1]
        parts = answers_of(voice(1, p), plain_run(1, x[:1]), plain_run(1, x[1:4]), plain_run(1, x[4:]))
        self.assertEqual(whole[1:7], parts[1][1:2] + parts[2][1:4] + parts[3][1:3])
        self.assertEqual(whole[7:], parts[1][2:] + parts[2][4:] + parts[3][3:])

    def test_order_of_the_filters_sums(self):
        # 2 ** 24 + 1 is halfway and goes down: so the order of the sums shows.
        big = 16777216.0
        for p, expected in (
                (settings(p0=big, p1=1.0, p2=1.0), big),
                (settings(p0=1.0, p1=1.0, p2=big), big + 2),
                (settings(p0=big, p1=1.0, p2=-big), 0.0),
                (settings(p0=1.0, p1=big, p2=-big), 0.0),
                (settings(p0=big, p1=-big, p2=1.0), 1.0)):
            found = answers_of(voice(0, p), plain_run(0, singles(1, 1, 1)))[1]
            self.assertEqual(found[3], singles(expected)[0])

    def test_products_are_rounded_by_themselves(self):
        # (1 + 2 ** -12) ** 2 less its rounded self would be 2 ** -24 if fused.
        root = 0x3F800800
        p = [root, 0xBF801000] + singles(0, 0, 0, 1, 0, 1, 1)
        found = answers_of(voice(0, p), plain_run(0, [ONE, root]))[1]
        self.assertEqual(found[2], ZERO)

    def test_gain_and_level_are_two_products(self):
        # 2 ** -100 by 2 ** -100 is no more there when 2 ** 100 comes to it.
        tiny = 2.0 ** -100
        p = settings(p0=1.0, p5=2.0 ** 100, p7=tiny, p8=tiny)
        self.assertEqual(answers_of(voice(0, p), plain_run(0, singles(tiny, tiny)))[1][2], ZERO)

    def test_zeros_keep_their_signs(self):
        below = [MINUS_ZERO] * 2
        # Each y starts with 1 times -0 and takes 0 from it or adds -0 to it, so it is -0 up to the level.
        p = [ONE, MINUS_ZERO, MINUS_ZERO, ZERO, ZERO, ONE, MINUS_ONE, ONE, ONE]
        x = [MINUS_ZERO, MINUS_ZERO]
        found = answers_of(voice(0, p), run(0, x, below, below))[1]
        expected = helper.ModelMixer()
        expected.voice(0, p)
        self.assertEqual(found, expected.run(0, x, below, below))
        self.assertIn(MINUS_ZERO, found)
        self.assertIn(ZERO, found[1:])

    def test_no_numbers_are_told_as_minus_one(self):
        for nan in NANS:
            found = answers_of(run(0, [nan], [ONE], [ONE]), run(0, [ZERO], [nan], [ONE]))
            self.assertEqual(found[0], [0, -1, -1])
            # The x1 that is no number, and so y, reach the next sample too.
            self.assertEqual(found[1], [0, -1, -1])
            self.assertEqual(answers_of(run(0, [ONE], [nan], [ONE])), [[0, -1, ONE]])
            self.assertEqual(answers_of(run(0, [ONE], [ONE], [nan])), [[0, ONE, -1]])
            self.assertEqual(answers_of(voice(0, [nan] + [ZERO] * 8), run(0, [ONE], [ONE], [ONE]))[1], [0, -1, -1])

    def test_as_many_samples_as_there_may_be(self):
        x = singles(*[k / 7 for k in range(1000)])
        found = answers_of(voice(15, settings(p0=1.0, p6=2.0)), plain_run(15, x))[1]
        self.assertEqual(found[1:1001], [ZERO] + x[1:])
        self.assertEqual(found[1001:], [ZERO] + [helper.add(bits, bits) for bits in x[1:]])


class GainTest(unittest.TestCase):
    def test_up_to_its_goal(self):
        self.assertEqual(gains(*singles(1, 0.375), 5), singles(0, 0.375, 0.75, 1, 1))
        self.assertEqual(gains(*singles(1, 0.5), 4), singles(0, 0.5, 1, 1))
        self.assertEqual(gains(*singles(1, 7), 3), singles(0, 1, 1))

    def test_down_to_its_goal(self):
        self.assertEqual(gains(*singles(-1, 0.375), 5), singles(0, -0.375, -0.75, -1, -1))
        self.assertEqual(gains(*singles(-1, 0.5), 4), singles(0, -0.5, -1, -1))
        self.assertEqual(gains(*singles(-1, 7), 3), singles(0, -1, -1))

    def test_down_from_above(self):
        calls = [voice(0, settings(p0=1.0, p7=2.0, p8=2.0)), plain_run(0, singles(1)),
                 voice(0, settings(p0=1.0, p7=0.5, p8=1.0)), plain_run(0, singles(1, 1, 1, 1))]
        self.assertEqual(answers_of(*calls)[3][1:5], singles(2, 1, 0.5, 0.5))

    def test_step_away_from_the_goal(self):
        self.assertEqual(gains(*singles(1, -1), 4), singles(0, -1, -2, -3))
        self.assertEqual(gains(*singles(-1, -1), 4), singles(0, 1, 2, 3))

    def test_stays_at_its_goal(self):
        self.assertEqual(gains(ZERO, ONE, 3), [ZERO, ZERO, ZERO])
        # The two zeros are the same to a comparison: so the gain stays the zero it was.
        self.assertEqual(gains(MINUS_ZERO, ONE, 3), [ZERO, ZERO, ZERO])

    def test_no_step(self):
        self.assertEqual(gains(ONE, ZERO, 3), [ZERO, ZERO, ZERO])

    def test_step_too_small_to_count(self):
        calls = [voice(0, settings(p0=1.0)), plain_run(0, [ONE]), voice(0, [ONE] + [ZERO] * 4 + [ONE, ZERO, TWO, LEAST]),
                 plain_run(0, [ONE] * 3)]
        self.assertEqual(answers_of(*calls)[3][1:4], [ONE, ONE, ONE])

    def test_step_below_the_least_normal(self):
        self.assertEqual(gains(3, 2, 4), [0, 2, 3, 3])

    def test_infinite_goal_and_step(self):
        self.assertEqual(gains(INFINITY, ONE, 3), singles(0, 1, 2))
        self.assertEqual(gains(ONE, INFINITY, 3), [ZERO, ONE, ONE])
        self.assertEqual(gains(INFINITY, INFINITY, 3), [ZERO, INFINITY, INFINITY])
        self.assertEqual(gains(MINUS_INFINITY, INFINITY, 3), [ZERO, MINUS_INFINITY, MINUS_INFINITY])

    def test_goal_that_is_no_number(self):
        for nan in NANS:
            self.assertEqual(gains(nan, ONE, 3), [ZERO, ZERO, ZERO])

    def test_step_that_is_no_number(self):
        for nan in NANS:
            # The sum is not above the goal, so it is the gain; from then on it stays.
            self.assertEqual(gains(ONE, nan, 3), [ZERO, -1, -1])
            self.assertEqual(gains(MINUS_ONE, nan, 3), [ZERO, -1, -1])

    def test_gain_that_is_no_number_stays(self):
        calls = [voice(0, settings(p0=1.0)[:8] + [NANS[0]]), plain_run(0, [ONE]), voice(0, settings(p0=1.0)),
                 plain_run(0, [ONE, ONE])]
        self.assertEqual(answers_of(*calls)[3][1:3], [-1, -1])


class AgainstTheModelTest(unittest.TestCase):
    def test_many_voices_and_runs(self):
        source = random.Random(11)
        for _ in range(60):
            self.check(source, lambda: helper.bits_of(source.choice((-1, 1)) * source.random() * 2.0))
            self.check(source, lambda: source.choice(helper.BOTH_SIGNS_OF_EDGES[:40]))
            self.check(source, lambda: source.getrandbits(32))

    def check(self, source, number):
        model = helper.ModelMixer()
        calls = []
        expected = []
        for _ in range(12):
            v = source.choice((0, 1, 15, 16, -1))
            p = [number() for _ in range(9)]
            size = source.choice((0, 5))
            rows = [[number() for _ in range(size)] for _ in range(3)]
            calls += [voice(v, p), run(v, *rows)]
            expected += [model.voice(v, p), model.run(v, *rows)]
        self.assertEqual(answers_of(*calls), expected)


if __name__ == "__main__":
    unittest.main()
