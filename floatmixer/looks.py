"""What is told of a row as a whole: its peak and its squares."""

from floatmixer.doubles import DOUBLE_INFINITY, double, rounded_double
from floatmixer.singles import SIZE, TOLD_NO_NUMBER, is_finite, is_no_number, steps

SUMS = 4


def peak(x):
    """The greatest size among the row's numbers; what is no number counts for nothing."""
    return max([bits & SIZE for bits in x if not is_no_number(bits)], default=0)


def squares_told(x):
    """The sum of the squares, as an answer lists a double."""
    if any([is_no_number(bits) for bits in x]):
        return TOLD_NO_NUMBER
    if not all([is_finite(bits) for bits in x]):
        # No square is below zero: so an infinity is not taken back by another one.
        return DOUBLE_INFINITY
    return double(sum_of_squares([steps(bits) for bits in x]))


def sum_of_squares(row):
    """The squares of a row of steps, added up in four sums, and these two by two."""
    sums = [0] * SUMS
    for i, count in enumerate(row):
        k = i % SUMS
        sums[k] = rounded_double(sums[k] + count * count)
    first = rounded_double(sums[0] + sums[1])
    second = rounded_double(sums[2] + sums[3])
    return rounded_double(first + second)
