"""Floats of IEEE 754's single format, each told by its 32 bits.

Every finite single is a whole number of steps of 2 ** -149, the least single above zero. So sums and
products are worked out exactly on whole numbers of steps, and are then rounded once.
"""

from floatmixer.rounding import nearest

SIGN = 0x80000000
SIZE = 0x7FFFFFFF
INFINITY = 0x7F800000
FRACTION = 0x7FFFFF
LEADING = 0x800000
NO_NUMBER = 0x7FC00000
TOLD_NO_NUMBER = -1
PRECISION = 24
# The number 1 is 2 ** 149 steps; so a product of steps by steps counts steps that are finer by this many bits.
FINER = 149


def is_no_number(bits):
    return bits & SIZE > INFINITY


def is_finite(bits):
    return bits & SIZE < INFINITY


def told(row):
    """The row as an answer lists it."""
    return [TOLD_NO_NUMBER if is_no_number(bits) else bits for bits in row]


def steps(bits):
    """How many steps a finite single is; 0 for both zeros."""
    field = bits >> 23 & 255
    size = bits & FRACTION
    if field > 0:
        size = (size | LEADING) << (field - 1)
    return -size if bits & SIGN else size


def rounded(count, finer):
    """The steps of the nearest single, of two as near the even one; count is of steps finer by so many bits.

    It may be beyond the largest single: there it stands for an infinity.
    """
    drop = max(count.bit_length() - PRECISION, finer)
    return nearest(count, drop) << (drop - finer)


def single(count):
    """The bits of the single that is count steps, which are rounded already; 0 is the zero above."""
    size = abs(count)
    drop = max(size.bit_length() - PRECISION, 0)
    # Added, not joined: the leading bit of what is left counts one up in the exponent's field.
    bits = min((drop << 23) + (size >> drop), INFINITY)
    return bits | SIGN if count < 0 else bits


def plus(a, b):
    if not (is_finite(a) and is_finite(b)):
        return plus_not_finite(a, b)
    total = rounded(steps(a) + steps(b), 0)
    if total == 0:
        # Two zeros below make a zero below; each other sum that is zero is the zero above.
        return a & b & SIGN
    return single(total)


def plus_not_finite(a, b):
    """The sum where one of the two at least is infinite or no number."""
    if is_no_number(a) or is_no_number(b):
        return NO_NUMBER
    if is_finite(a):
        return b
    if is_finite(b) or a == b:
        return a
    return NO_NUMBER


def minus(a, b):
    return plus(a, b ^ SIGN)


def times(a, b):
    if not (is_finite(a) and is_finite(b)):
        return times_not_finite(a, b)
    product = rounded(abs(steps(a) * steps(b)), FINER)
    # The sign is put on at the end, as a product that is zero has one too.
    return (a ^ b) & SIGN | single(product)


def times_not_finite(a, b):
    """The product where one of the two at least is infinite or no number."""
    if is_no_number(a) or is_no_number(b) or a & SIZE == 0 or b & SIZE == 0:
        return NO_NUMBER
    return (a ^ b) & SIGN | INFINITY


def is_below(a, b):
    """Whether a is less than b: false where one of them is no number."""
    if is_no_number(a) or is_no_number(b):
        return False
    return place_in_order(a) < place_in_order(b)


def place_in_order(bits):
    """A whole number that is to others as the single is to theirs; both zeros have the same."""
    return -(bits & SIZE) if bits & SIGN else bits


def from_whole(number):
    """The single nearest to a whole number."""
    return single(rounded(number << FINER, 0))
