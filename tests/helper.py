"""What the tests share: calls in the list's form, answers taken apart, and floats worked out by Python's own."""

import math
import struct

from floatmixer.mixer import answers

ZERO = 0x00000000
MINUS_ZERO = 0x80000000
LEAST = 0x00000001
LARGEST_BELOW_NORMAL = 0x007FFFFF
LEAST_NORMAL = 0x00800000
ONE = 0x3F800000
MINUS_ONE = 0xBF800000
LARGEST = 0x7F7FFFFF
INFINITY = 0x7F800000
MINUS_INFINITY = 0xFF800000
SIGN = 0x80000000
NAN = 0x7FC00000
NANS = (0x7F800001, 0x7FBFFFFF, 0x7FC00000, 0x7FFFFFFF, 0xFF800001, 0xFFBFFFFF, 0xFFC00000, 0xFFFFFFFF, 0x7FC12345)

EDGES = (
    ZERO, LEAST, 2, 3, LARGEST_BELOW_NORMAL, LEAST_NORMAL, LEAST_NORMAL + 1, 0x00FFFFFF, 0x01000000,
    0x33800000, 0x33800001, 0x34000000, 0x3EFFFFFF, 0x3F000000, 0x3F7FFFFF, ONE, ONE + 1, ONE + 2, 0x3FFFFFFF,
    0x40000000, 0x4B000000, 0x4B7FFFFF, 0x4B800000, 0x5F7FFFFF, 0x5F800000, 0x72FFFFFF, 0x73000000,
    0x7E800000, 0x7F000000, 0x7F7FFFFE, LARGEST, INFINITY,
)
BOTH_SIGNS_OF_EDGES = EDGES + tuple(bits | SIGN for bits in EDGES)


def clear():
    return [1]


def row(numbers):
    return [len(numbers)] + list(numbers)


def voice(v, p):
    return [2, v] + row(p)


def run(v, x, left, right):
    return [3, v] + row(x) + row(left) + row(right)


def echo(d, back, wet, x):
    return [4, d, back, wet] + row(x)


def mix(gain, step, a, b):
    return [5, gain, step] + row(a) + row(b)


def window(n, x, taps):
    return [6, n] + row(x) + row(taps)


def matrix(n, m, x):
    return [7, n] + row(m) + row(x)


def answers_of(*calls):
    """The answers to a clear and the calls behind it, each as a list; that of the clear is left out."""
    result = answers(clear() + [number for call in calls for number in call])
    taken = []
    place = 0
    while place < len(result):
        size = result[place]
        taken.append(result[place + 1:place + 1 + size])
        assert len(taken[-1]) == size
        place += 1 + size
    assert len(taken) == 1 + len(calls)
    assert taken[0] == [0]
    return taken[1:]


def value(bits):
    return struct.unpack("<f", struct.pack("<I", bits))[0]


def bits_of(number):
    """The bits of the single nearest to Python's float; every NaN gives the same bits."""
    if math.isnan(number):
        return NAN
    try:
        packed = struct.pack("<f", number)
    except OverflowError:
        packed = struct.pack("<f", math.copysign(math.inf, number))
    return struct.unpack("<I", packed)[0]


def singles(*numbers):
    return [bits_of(number) for number in numbers]


# A sum, difference or product of singles that is rounded to a double and then to a single is the same as if
# rounded once, as a double has more than twice a single's digits.

def add(a, b):
    return bits_of(value(a) + value(b))


def subtract(a, b):
    return bits_of(value(a) - value(b))


def multiply(a, b):
    return bits_of(value(a) * value(b))


def told(numbers):
    return [-1 if value(bits) != value(bits) else bits for bits in numbers]


class ModelMixer:
    """The seven calls once more, written from the document's words with Python's own floats."""

    def __init__(self):
        self.p = [[ZERO] * 9 for _ in range(16)]
        self.kept = [[ZERO] * 5 for _ in range(16)]
        self.line = []

    def voice(self, v, p):
        if v not in range(16):
            return [-2]
        self.p[v] = list(p)
        return [0]

    def run(self, v, x, left, right):
        if v not in range(16):
            return [-2]
        p = self.p[v]
        left, right = list(left), list(right)
        for place, sample in enumerate(x):
            x1, x2, y1, y2, g = self.kept[v]
            y = multiply(p[0], sample)
            y = add(y, multiply(p[1], x1))
            y = add(y, multiply(p[2], x2))
            y = subtract(y, multiply(p[3], y1))
            y = subtract(y, multiply(p[4], y2))
            w = multiply(y, g)
            left[place] = add(left[place], multiply(w, p[5]))
            right[place] = add(right[place], multiply(w, p[6]))
            if value(g) < value(p[7]):
                g = add(g, p[8])
                if value(g) > value(p[7]):
                    g = p[7]
            elif value(g) > value(p[7]):
                g = subtract(g, p[8])
                if value(g) < value(p[7]):
                    g = p[7]
            self.kept[v] = [sample, x1, y, y1, g]
        return [0] + told(left) + told(right)

    def echo(self, d, back, wet, x):
        if not 1 <= d <= 8192:
            return [-2]
        heard = []
        for sample in x:
            e = self.line[-d] if d <= len(self.line) else ZERO
            self.line.append(add(sample, multiply(back, e)))
            heard.append(add(sample, multiply(wet, e)))
        return [0] + told(heard)

    def mix(self, gain, step, a, b):
        levels = [add(gain, multiply(bits_of(float(i)), step)) for i in range(len(a))]
        return [0] + told([add(b[i], multiply(a[i], level)) for i, level in enumerate(levels)])

    def window(self, n, x, taps):
        sums = []
        for i in range(n):
            total = ZERO
            for k, tap in enumerate(taps):
                total = add(total, multiply(tap, x[i + k]))
            sums.append(total)
        return [0] + told(sums)

    def matrix(self, n, m, x):
        result = list(x)
        for k in range(4):
            for i in range(n):
                parts = [multiply(m[4 * k + j], x[j * n + i]) for j in range(4)]
                result[k * n + i] = add(add(add(parts[0], parts[1]), parts[2]), parts[3])
        return [0] + told(result)
