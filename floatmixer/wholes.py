"""Whole numbers of 16 bits out of samples, and samples out of them."""

from floatmixer.rounding import nearest
from floatmixer.singles import FINER, SIGN, from_whole, is_finite, is_no_number, steps, times

LEAST_WHOLE = -32768
MOST_WHOLE = 32767
# The single 32768, and the single 1 / 32768.
UP = 0x47000000
DOWN = 0x38000000


def to_whole(bits):
    """The whole number that stands for a sample."""
    if is_no_number(bits):
        return 0
    product = times(bits, UP)
    if not is_finite(product):
        return LEAST_WHOLE if product & SIGN else MOST_WHOLE
    return min(max(nearest(steps(product), FINER), LEAST_WHOLE), MOST_WHOLE)


def to_wholes(x):
    return [to_whole(bits) for bits in x]


def from_wholes(x):
    return [times(from_whole(number), DOWN) for number in x]
