"""What is done to rows of samples alone, without anything that is kept."""

from floatmixer.singles import from_whole, plus, times
from floatmixer.products import sliding_sums


def mixed(gain, step, a, b):
    """The row b with a added to it, by a gain that goes on by the step from sample to sample."""
    result = []
    for i, sample in enumerate(a):
        level = plus(gain, times(from_whole(i), step))
        result.append(plus(b[i], times(sample, level)))
    return result


def windowed(n, x, taps):
    return sliding_sums(taps, x, n)


def through_matrix(n, m, x):
    """x's four rows of n, each place's four numbers multiplied by the matrix m."""
    result = []
    for k in range(4):
        factors = m[4 * k:4 * k + 4]
        for i in range(n):
            result.append(matrix_sum(factors, [x[i], x[n + i], x[2 * n + i], x[3 * n + i]]))
    return result


def matrix_sum(factors, numbers):
    # It starts with the first product, not with 0: that would lose the sign of a zero.
    total = times(factors[0], numbers[0])
    for k in range(1, 4):
        total = plus(total, times(factors[k], numbers[k]))
    return total
