"""Rows of numbers with a real and another part turned into frequencies."""

from floatmixer.singles import minus, plus, times


def turned(k, real, other, table_real, table_other):
    """The 2 ** k numbers as they are when they are turned: a pair of their real and their other parts."""
    places = [mirrored(i, k) for i in range(len(real))]
    new_real = [real[place] for place in places]
    new_other = [other[place] for place in places]
    h = 1
    while h < len(real):
        stride = len(real) // (2 * h)
        for i in range(len(real)):
            if i & h == 0:
                j = i % h * stride
                cross(new_real, new_other, i, i + h, (table_real[j], table_other[j]))
        h *= 2
    return (new_real, new_other)


def mirrored(i, k):
    """The number whose k bits are i's the other way round."""
    result = 0
    for bit in range(k):
        result = result << 1 | i >> bit & 1
    return result


def cross(real, other, first, second, factor):
    """Changes two places of the parts: to the sum and the difference of the first and the second times the factor."""
    t_real = minus(times(factor[0], real[second]), times(factor[1], other[second]))
    t_other = plus(times(factor[0], other[second]), times(factor[1], real[second]))
    u_real = real[first]
    u_other = other[first]
    real[first] = plus(u_real, t_real)
    other[first] = plus(u_other, t_other)
    real[second] = minus(u_real, t_real)
    other[second] = minus(u_other, t_other)
