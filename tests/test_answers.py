import contextlib
import io
import random
import unittest

import helper
from helper import (INFINITY, MINUS_INFINITY, MINUS_ZERO, NANS, ONE, ZERO, answers_of, clear, echo, from16, hold, look,
                    matrix, mix, run, shifts, singles, to16, turn, voice, window)
from floatmixer.mixer import answers

LOUD = singles(1, 2, 3, 4, 5, 6, 7, 8, 0.5)


def joined(calls):
    return [number for call in calls for number in call]


def calls_that_leave_something():
    calls = []
    for v in range(16):
        calls += [voice(v, LOUD), run(v, singles(1, 2), singles(3, 4), singles(5, 6))]
    return calls + [echo(3, ONE, ONE, singles(*range(1, 1000)))] * 9


def calls_that_keep_nothing():
    """Calls of each kind that neither need nor leave anything, with numbers of each kind among theirs."""
    row = singles(1, -2, 3.5, 1e-40) + [MINUS_ZERO, INFINITY, MINUS_INFINITY, NANS[1]]
    return [
        mix(ONE, ONE, row, row),
        window(7, row, singles(1, 2)),
        matrix(2, LOUD + singles(1, 2, 3, 4, 5, 6, 7), row),
        hold(ONE, row),
        look(row),
        look(row[:5]),
        to16(row),
        from16([-32768, -1, 0, 1, 32767]),
        shifts(3, row[:6], row),
        turn(3, row, row[::-1], singles(1, 2, 3, 4), singles(5, 6, 7, 8)),
        turn(0, [NANS[2]], [ONE], [], []),
    ]


class ClearTest(unittest.TestCase):
    def test_answers_zero(self):
        self.assertEqual(answers([1]), [1, 0])
        self.assertEqual(answers([1, 1, 1]), [1, 0, 1, 0, 1, 0])

    def test_voices_have_no_numbers_behind_it(self):
        after = [run(v, singles(1, 2), singles(0, 0), singles(0, 0)) for v in range(16)]
        found = answers_of(*calls_that_leave_something(), clear(), *after)
        self.assertEqual(found[-17:], [[0]] + [[0] + singles(0, 0, 0, 0)] * 16)

    def test_voices_have_no_samples_and_no_gain_behind_it(self):
        after = []
        for v in range(16):
            after += [voice(v, LOUD), run(v, singles(7, 8), singles(3, 4), singles(5, 6))]
        found = answers_of(*calls_that_leave_something(), clear(), *after)
        self.assertEqual(found[-32:], answers_of(*after))

    def test_echos_line_is_zeros_behind_it(self):
        after = [echo(d, ZERO, ONE, [MINUS_ZERO] * 1000) for d in (1, 1000, 4000, 8192)]
        found = answers_of(*calls_that_leave_something(), clear(), *after)
        self.assertEqual(found[-4:], answers_of(*after))
        self.assertEqual(found[-4:-3], [[0] + [ZERO] * 1000])

    def test_whole_line_is_zeros_behind_it(self):
        after = [echo(8192, ZERO, ONE, [ZERO] * 1000)] * 9
        found = answers_of(*calls_that_leave_something(), clear(), *after)
        self.assertEqual(found[-9:], [[0] + [ZERO] * 1000] * 9)


class UnchangedList(list):
    """A list that fails where it is changed."""

    def fail(self, *arguments, **named):
        raise AssertionError("the list that was handed in is changed")

    append = extend = insert = pop = remove = reverse = sort = clear = fail
    __setitem__ = __delitem__ = __iadd__ = __imul__ = fail


class AnswersTest(unittest.TestCase):
    def test_several_calls_in_one_list(self):
        calls = [1]
        calls += [2, 0, 9] + singles(2, 0, 0, 0, 0, 1, 0.5, 1, 1)
        calls += [3, 0, 2] + singles(1, 3) + [2] + singles(10, 20) + [2] + singles(30, 40)
        calls += [3, 16, 1] + singles(1) + [1] + singles(1) + [1] + singles(1)
        calls += [4, 1] + singles(0.5, 1) + [3] + singles(1, 2, 3)
        calls += [4, 0] + singles(0.5, 1) + [1] + singles(1)
        calls += [5] + singles(1, 1) + [2] + singles(1, 2) + [2] + singles(3, 4)
        calls += [6, 2, 3] + singles(1, 2, 3) + [2] + singles(1, 10)
        calls += [7, 1, 16] + singles(*[1, 0, 0, 0] * 4) + [4] + singles(5, 6, 7, 8)
        calls += [2, -1, 9] + [ZERO] * 9
        calls += [8] + singles(1) + [3] + singles(2, -2, 0.5)
        calls += [9, 2] + singles(3, -4)
        calls += [10, 3] + singles(0.5, -1, 2)
        calls += [11, 3, -1, 16384, -32768]
        calls += [12, 2, 2] + singles(1, 10) + [3] + singles(1, 2, 3)
        calls += [13, 1, 2] + singles(1, 3) + [2] + singles(2, 4) + [1] + singles(5) + [1] + singles(6)
        calls += [13, 0, 1] + singles(7) + [1] + singles(8) + [0, 0]
        calls += [3, 0, 0, 0, 0]
        calls += [8, 0, 0, 9, 0, 10, 0, 11, 0, 12, 1, 0, 0]
        calls += [4, 8193, 0, 0, 0]
        calls += [1]
        expected = [1, 0]
        expected += [1, 0]
        expected += [5, 0] + singles(10, 26, 30, 43)
        expected += [1, -2]
        expected += [4, 0] + singles(1, 3, 5.5)
        expected += [1, -2]
        expected += [3, 0] + singles(4, 8)
        expected += [3, 0] + singles(21, 32)
        expected += [5, 0] + singles(5, 5, 5, 5)
        expected += [1, -2]
        expected += [4, 0] + singles(1, -1, 0.5)
        expected += [3, 0] + singles(4) + [0x4039000000000000]
        expected += [4, 0, 16384, -32768, 32767]
        expected += [4, 0] + singles(-1 / 32768, 0.5, -1)
        expected += [3, 0] + singles(21, 32)
        expected += [5, 0] + singles(-8, 10, 40, -36)
        expected += [3, 0] + singles(7, 8)
        expected += [1, 0]
        expected += [1, 0, 3, 0, 0, 0, 1, 0, 1, 0, 2, 0, 0]
        expected += [1, -2]
        expected += [1, 0]
        self.assertEqual(answers(calls), expected)

    def test_two_hundred_calls(self):
        self.assertEqual(answers([1] * 200), [1, 0] * 200)
        calls = clear() + joined([voice(k % 18 - 1, LOUD) for k in range(199)])
        expected = [1, 0] + joined([[1, -2 if k % 18 in (0, 17) else 0] for k in range(199)])
        self.assertEqual(answers(calls), expected)

    def test_two_hundred_calls_of_all_kinds(self):
        kinds = calls_that_keep_nothing()
        kinds += [clear(), voice(3, LOUD), run(3, [ONE], [ONE], [ONE]), echo(1, ONE, ONE, [ONE, ONE])]
        kinds += [voice(16, LOUD), run(-1, [ONE], [ONE], [ONE]), echo(0, ONE, ONE, [ONE])]
        calls = [kinds[k % len(kinds)] for k in range(199)]
        found = answers_of(*calls)
        self.assertEqual(found[:len(kinds)], joined(answers_of(*part) for part in (kinds[:11], kinds[11:])))
        for k in range(199):
            # The clear is among them, so it's all the same again from there on.
            self.assertEqual(found[k], found[k % len(kinds)])
            self.assertEqual(found[k] == [-2], k % len(kinds) >= 15)

    def test_what_is_handed_in_is_as_it_was(self):
        calls = clear() + joined(calls_that_leave_something()) + joined(calls_that_keep_nothing())
        before = list(calls)
        answers(calls)
        self.assertEqual(calls, before)

    def test_what_is_handed_in_is_not_changed_for_a_while_either(self):
        calls = clear() + joined(calls_that_leave_something()) + joined(calls_that_keep_nothing())
        self.assertEqual(answers(UnchangedList(calls)), answers(calls))

    def test_nothing_is_kept_from_one_time_to_the_next(self):
        calls = clear() + joined(calls_that_leave_something()) + joined(calls_that_keep_nothing())
        first = answers(calls)
        self.assertEqual(answers(calls), first)
        first[0] = 99
        self.assertEqual(answers(calls)[0], 1)

    def test_these_calls_leave_what_is_kept(self):
        voices_and_echo = [run(v, singles(1, 2), singles(3, 4), singles(5, 6)) for v in range(16)]
        voices_and_echo += [echo(1000, ONE, ONE, singles(1, 2))]
        found = answers_of(*calls_that_leave_something(), *calls_that_keep_nothing(), *voices_and_echo)
        self.assertEqual(found[-17:], answers_of(*calls_that_leave_something(), *voices_and_echo)[-17:])
        self.assertEqual(found[-28:-17], answers_of(*calls_that_keep_nothing()))

    def test_gives_back_a_list_of_whole_numbers(self):
        found = answers(clear() + joined(calls_that_leave_something()) + joined(calls_that_keep_nothing()))
        self.assertIs(type(found), list)
        self.assertEqual({type(number) for number in found}, {int})

    def test_prints_nothing(self):
        printed = io.StringIO()
        with contextlib.redirect_stdout(printed), contextlib.redirect_stderr(printed):
            answers(clear() + joined(calls_that_leave_something()) + joined(calls_that_keep_nothing()))
        self.assertEqual(printed.getvalue(), "")

    def test_all_calls_against_the_model(self):
        source = random.Random(61)
        for _ in range(30):
            self.check_one_list(source)

    def check_one_list(self, source):
        model = helper.ModelMixer()
        calls = []
        expected = []
        for _ in range(40):
            numbers = [source.choice((helper.bits_of(source.uniform(-1, 1)), source.choice(helper.EDGES)))
                       for _ in range(64)]
            size = source.randint(0, 6)
            name, arguments = source.choice((
                ("voice", (source.randint(-1, 4), numbers[:9])),
                ("run", (source.randint(-1, 4), numbers[:size], numbers[20:20 + size], numbers[40:40 + size])),
                ("echo", (source.randint(0, 9), numbers[0], numbers[1], numbers[2:2 + size])),
                ("mix", (numbers[0], numbers[1], numbers[2:2 + size], numbers[20:20 + size])),
                ("window", (size, numbers[:size + 4 if size else 0], numbers[20:25])),
                ("matrix", (size, numbers[:16], numbers[16:16 + 4 * size])),
                ("hold", (numbers[0], numbers[1:1 + 3 * size])),
                ("look", (numbers[:3 * size],)),
                ("to16", (numbers[:size],)),
                ("from16", ([source.randint(-32768, 32767) for _ in range(size)],)),
                ("shifts", (5, numbers[:size], numbers[20:24 + size])),
                ("turn", (3, numbers[:8], numbers[8:16], numbers[16:20], numbers[20:24])),
            ))
            calls.append(getattr(helper, name)(*arguments))
            expected.append(getattr(model, name)(*arguments))
        self.assertEqual(answers_of(*calls), expected)


if __name__ == "__main__":
    unittest.main()
