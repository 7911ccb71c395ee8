"""What the tests share: calls in the list's form, answers taken apart, and floats worked out by Python's own."""

import math
import struct

from floatmixer.mixer import answers

ZERO = 0x00000000
MINUS_ZERO = 0x80000000
LEAST = 0x00000001
LARGEST_BELOW_NORMAL = 0x007FFFFF
LEAST_NORMAL = 0x00800000
ONE = 0x3F800000
MINUS_ONE = 0xBF800000
LARGEST = 0x7F7FFFFF
INFINITY = 0x7F800000
MINUS_INFINITY = 0xFF800000
SIGN = 0x80000000
NAN = 0x7FC00000
# The square of the first is just beside the second's size, to which it is rounded.
ROOT = 0x3F800800
MINUS_ROUNDED_SQUARE = 0xBF801000
# The next single above is greater by 2.
BIG = 16777216.0
NANS = (0x7F800001, 0x7FBFFFFF, 0x7FC00000, 0x7FFFFFFF, 0xFF800001, 0xFFBFFFFF, 0xFFC00000, 0xFFFFFFFF, 0x7FC12345)

EDGES = (
    ZERO, LEAST, 2, 3, LARGEST_BELOW_NORMAL, LEAST_NORMAL, LEAST_NORMAL + 1, 0x00FFFFFF, 0x01000000,
    0x33800000, 0x33800001, 0x34000000, 0x3EFFFFFF, 0x3F000000, 0x3F7FFFFF, ONE, ONE + 1, ONE + 2, 0x3FFFFFFF,
    0x40000000, 0x4B000000, 0x4B7FFFFF, 0x4B800000, 0x5F7FFFFF, 0x5F800000, 0x72FFFFFF, 0x73000000,
    0x7E800000, 0x7F000000, 0x7F7FFFFE, LARGEST, INFINITY,
)
BOTH_SIGNS_OF_EDGES = EDGES + tuple(bits | SIGN for bits in EDGES)


def kinds_of_numbers(source):
    """Ways to draw a number: near 1, from the edges, near 2 ** 64, among the small ones, any bits."""
    return (
        lambda: bits_of(source.uniform(-2, 2)),
        lambda: source.choice(BOTH_SIGNS_OF_EDGES),
        lambda: source.getrandbits(1) << 31 | source.randint(0x5E000000, 0x61000000),
        lambda: source.getrandbits(1) << 31 | source.randint(0, 0x20000000),
        lambda: source.getrandbits(32),
    )


def clear():
    return [1]


def row(numbers):
    return [len(numbers)] + list(numbers)


def voice(v, p):
    return [2, v] + row(p)


def run(v, x, left, right):
    return [3, v] + row(x) + row(left) + row(right)


def echo(d, back, wet, x):
    return [4, d, back, wet] + row(x)


def mix(gain, step, a, b):
    return [5, gain, step] + row(a) + row(b)


def window(n, x, taps):
    return [6, n] + row(x) + row(taps)


def matrix(n, m, x):
    return [7, n] + row(m) + row(x)


def hold(most, x):
    return [8, most] + row(x)


def look(x):
    return [9] + row(x)


def to16(x):
    return [10] + row(x)


def from16(x):
    return [11] + row(x)


def shifts(lags, a, b):
    return [12, lags] + row(a) + row(b)


def turn(k, re, im, wre, wim):
    return [13, k] + row(re) + row(im) + row(wre) + row(wim)


def answers_of(*calls):
    """The answers to a clear and the calls behind it, each as a list; that of the clear is left out."""
    result = answers(clear() + [number for call in calls for number in call])
    taken = []
    place = 0
    while place < len(result):
        size = result[place]
        taken.append(result[place + 1:place + 1 + size])
        assert len(taken[-1]) == size
        place += 1 + size
    assert len(taken) == 1 + len(calls)
    assert taken[0] == [0]
    return taken[1:]


def value(bits):
    return struct.unpack("<f", struct.pack("<I", bits))[0]


def bits_of(number):
    """The bits of the single nearest to Python's float; every NaN gives the same bits."""
    if math.isnan(number):
        return NAN
    try:
        packed = struct.pack("<f", number)
    except OverflowError:
        packed = struct.pack("<f", math.copysign(math.inf, number))
    return struct.unpack("<I", packed)[0]


def bits_of_double(number):
    return struct.unpack("<Q", struct.pack("<d", number))[0]


def singles(*numbers):
    return [bits_of(number) for number in numbers]


# A sum, difference or product of singles that is rounded to a double and then to a single is the same as if
# rounded once, as a double has more than twice a single's digits.

def add(a, b):
    return bits_of(value(a) + value(b))


def subtract(a, b):
    return bits_of(value(a) - value(b))


def multiply(a, b):
    return bits_of(value(a) * value(b))


def told(numbers):
    return [-1 if value(bits) != value(bits) else bits for bits in numbers]


class ModelMixer:
    """The calls once more, written from the document's words with Python's own floats."""

    def __init__(self):
        self.p = [[ZERO] * 9 for _ in range(16)]
        self.kept = [[ZERO] * 5 for _ in range(16)]
        self.line = []

    def voice(self, v, p):
        if v not in range(16):
            return [-2]
        self.p[v] = list(p)
        return [0]

    def run(self, v, x, left, right):
        if v not in range(16):
            return [-2]
        p = self.p[v]
        left, right = list(left), list(right)
        for place, sample in enumerate(x):
            x1, x2, y1, y2, g = self.kept[v]
            y = multiply(p[0], sample)
            y = add(y, multiply(p[1], x1))
            y = add(y, multiply(p[2], x2))
            y = subtract(y, multiply(p[3], y1))
            y = subtract(y, multiply(p[4], y2))
            w = multiply(y, g)
            left[place] = add(left[place], multiply(w, p[5]))
            right[place] = add(right[place], multiply(w, p[6]))
            if value(g) < value(p[7]):
                g = add(g, p[8])
                if value(g) > value(p[7]):
                    g = p[7]
            elif value(g) > value(p[7]):
                g = subtract(g, p[8])
                if value(g) < value(p[7]):
                    g = p[7]
            self.kept[v] = [sample, x1, y, y1, g]
        return [0] + told(left) + told(right)

    def echo(self, d, back, wet, x):
        if not 1 <= d <= 8192:
            return [-2]
        heard = []
        for sample in x:
            e = self.line[-d] if d <= len(self.line) else ZERO
            self.line.append(add(sample, multiply(back, e)))
            heard.append(add(sample, multiply(wet, e)))
        return [0] + told(heard)

    def mix(self, gain, step, a, b):
        levels = [add(gain, multiply(bits_of(float(i)), step)) for i in range(len(a))]
        return [0] + told([add(b[i], multiply(a[i], level)) for i, level in enumerate(levels)])

    def window(self, n, x, taps):
        sums = []
        for i in range(n):
            total = ZERO
            for k, tap in enumerate(taps):
                total = add(total, multiply(tap, x[i + k]))
            sums.append(total)
        return [0] + told(sums)

    def matrix(self, n, m, x):
        result = list(x)
        for k in range(4):
            for i in range(n):
                parts = [multiply(m[4 * k + j], x[j * n + i]) for j in range(4)]
                result[k * n + i] = add(add(add(parts[0], parts[1]), parts[2]), parts[3])
        return [0] + told(result)

    def hold(self, most, x):
        result = []
        for bits in x:
            if value(bits) > value(most):
                bits = most
            elif value(bits) < -value(most):
                bits = bits_of(-value(most))
            result.append(bits)
        return [0] + told(result)

    def look(self, x):
        peak = 0.0
        sums = [0.0] * 4
        for place, bits in enumerate(x):
            if abs(value(bits)) > peak:
                peak = abs(value(bits))
            sums[place % 4] += value(bits) * value(bits)
        squares = (sums[0] + sums[1]) + (sums[2] + sums[3])
        return [0, bits_of(peak), -1 if math.isnan(squares) else bits_of_double(squares)]

    def to16(self, x):
        result = []
        for bits in x:
            number = value(bits) * 32768
            if math.isnan(number):
                result.append(0)
            else:
                # Python's round takes halves to the even one too.
                result.append(round(min(max(number, -32768.0), 32767.0)))
        return [0] + result

    def from16(self, x):
        return [0] + told([bits_of(number / 32768) for number in x])

    def shifts(self, lags, a, b):
        sums = []
        for lag in range(lags):
            total = ZERO
            for k, bits in enumerate(a):
                total = add(total, multiply(bits, b[lag + k]))
            sums.append(total)
        return [0] + told(sums)

    def turn(self, k, re, im, wre, wim):
        size = 1 << k
        order = [int(format(i, "b").zfill(k)[::-1], 2) for i in range(size)] if k else [0]
        re = [re[i] for i in order]
        im = [im[i] for i in order]
        for level in range(k):
            h = 1 << level
            for i in range(size):
                if i // h % 2 == 0:
                    j = i % h * size // (2 * h)
                    t_re = subtract(multiply(wre[j], re[i + h]), multiply(wim[j], im[i + h]))
                    t_im = add(multiply(wre[j], im[i + h]), multiply(wim[j], re[i + h]))
                    re[i], re[i + h] = add(re[i], t_re), subtract(re[i], t_re)
                    im[i], im[i + h] = add(im[i], t_im), subtract(im[i], t_im)
        return [0] + told(re) + told(im)
