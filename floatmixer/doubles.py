"""Sums of squares of singles, as floats of IEEE 754's double format, each told by its 64 bits.

The square of a single is a whole number of steps of 2 ** -298, and as a double it is exact. No sum of
squares comes near to the double's own ends: so doubles below the least normal one, or too large ones,
don't come up.
"""

from floatmixer.rounding import nearest

DOUBLE_INFINITY = 0x7FF0000000000000
DOUBLE_PRECISION = 53
# 2 ** 52 steps of 2 ** -298 have this number in the exponent's field, less 1 for the leading bit.
FIELD = 776


def rounded_double(count):
    """The steps of the double nearest to so many steps, of two as near the even one."""
    drop = max(count.bit_length() - DOUBLE_PRECISION, 0)
    return nearest(count, drop) << drop


def double(count):
    """The bits of the double that is count steps, which are rounded already and not below 0."""
    if count == 0:
        return 0
    drop = count.bit_length() - DOUBLE_PRECISION
    kept = count >> drop if drop > 0 else count << -drop
    # Added, not joined: the leading bit of what is kept counts one up in the exponent's field.
    return ((FIELD + drop) << 52) + kept
