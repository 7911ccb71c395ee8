"""What is done to rows of samples alone, without anything that is kept."""

from floatmixer.products import sliding_sums
from floatmixer.singles import SIGN, from_whole, is_below, plus, times


def mixed(gain, step, a, b):
    """The row b with a added to it, by a gain that goes on by the step from sample to sample."""
    result = []
    for i, sample in enumerate(a):
        level = plus(gain, times(from_whole(i), step))
        result.append(plus(b[i], times(sample, level)))
    return result


def windowed(n, x, taps):
    return sliding_sums(taps, x, n)


def through_matrix(n, m, x):
    """x's four rows of n, each place's four numbers multiplied by the matrix m."""
    result = []
    for k in range(4):
        factors = m[4 * k:4 * k + 4]
        for i in range(n):
            result.append(matrix_sum(factors, [x[i], x[n + i], x[2 * n + i], x[3 * n + i]]))
    return result


def matrix_sum(factors, numbers):
    # It starts with the first product, not with 0: that would lose the sign of a zero.
    total = times(factors[0], numbers[0])
    for k in range(1, 4):
        total = plus(total, times(factors[k], numbers[k]))
    return total


def held(most, x):
    """The row x with no number above most; of the others none below -most."""
    least = most ^ SIGN
    return [held_between(least, most, bits) for bits in x]


def held_between(least, most, bits):
    # What is above most isn't looked at again: where most is below zero, most is below least too.
    if is_below(most, bits):
        return most
    if is_below(bits, least):
        return least
    return bits


def shifted_sums(lags, a, b):
    return sliding_sums(a, b, lags)
