"""The mixer: reads the calls out of one list, and tells the answers in another."""

from floatmixer.echoes import PLACES, EchoLine
from floatmixer.looks import peak, squares_told
from floatmixer.rows import held, mixed, shifted_sums, through_matrix, windowed
from floatmixer.singles import told
from floatmixer.turns import turned
from floatmixer.voices import Voice
from floatmixer.wholes import from_wholes, to_wholes

VOICES = 16
DONE = 0
REFUSED = -2


class Reader:
    def __init__(self, calls):
        self.calls = calls
        self.place = 0

    def is_at_end(self):
        return self.place >= len(self.calls)

    def number(self):
        self.place += 1
        return self.calls[self.place - 1]

    def row(self):
        size = self.number()
        self.place += size
        return self.calls[self.place - size:self.place]


class Mixer:
    def __init__(self):
        self.start_anew()

    def start_anew(self):
        self.voices = [Voice() for v in range(VOICES)]
        self.echo_line = EchoLine()


def answer_clear(mixer, reader):
    mixer.start_anew()
    return [DONE]


def answer_voice(mixer, reader):
    v = reader.number()
    p = reader.row()
    if not 0 <= v < VOICES:
        return [REFUSED]
    voice = mixer.voices[v]
    voice.p = p
    return [DONE]


def answer_run(mixer, reader):
    v = reader.number()
    x = reader.row()
    left = reader.row()
    right = reader.row()
    if not 0 <= v < VOICES:
        return [REFUSED]
    voice = mixer.voices[v]
    sides = voice.sides(x, left, right)
    return [DONE] + told(sides[0]) + told(sides[1])


def answer_echo(mixer, reader):
    delay = reader.number()
    back = reader.number()
    wet = reader.number()
    x = reader.row()
    if not 1 <= delay <= PLACES:
        return [REFUSED]
    return [DONE] + told(mixer.echo_line.echoed(delay, back, wet, x))


def answer_mix(mixer, reader):
    gain = reader.number()
    step = reader.number()
    a = reader.row()
    b = reader.row()
    return [DONE] + told(mixed(gain, step, a, b))


def answer_window(mixer, reader):
    n = reader.number()
    x = reader.row()
    taps = reader.row()
    return [DONE] + told(windowed(n, x, taps))


def answer_matrix(mixer, reader):
    n = reader.number()
    m = reader.row()
    x = reader.row()
    return [DONE] + told(through_matrix(n, m, x))


def answer_hold(mixer, reader):
    most = reader.number()
    x = reader.row()
    return [DONE] + told(held(most, x))


def answer_look(mixer, reader):
    x = reader.row()
    return [DONE, peak(x), squares_told(x)]


def answer_to16(mixer, reader):
    # These are whole numbers: none of them stands for a float that is no number.
    return [DONE] + to_wholes(reader.row())


def answer_from16(mixer, reader):
    return [DONE] + told(from_wholes(reader.row()))


def answer_shifts(mixer, reader):
    lags = reader.number()
    a = reader.row()
    b = reader.row()
    return [DONE] + told(shifted_sums(lags, a, b))


def answer_turn(mixer, reader):
    k = reader.number()
    real = reader.row()
    other = reader.row()
    table_real = reader.row()
    table_other = reader.row()
    parts = turned(k, real, other, table_real, table_other)
    return [DONE] + told(parts[0]) + told(parts[1])


BY_NUMBER = {
    1: answer_clear,
    2: answer_voice,
    3: answer_run,
    4: answer_echo,
    5: answer_mix,
    6: answer_window,
    7: answer_matrix,
    8: answer_hold,
    9: answer_look,
    10: answer_to16,
    11: answer_from16,
    12: answer_shifts,
    13: answer_turn,
}


def answers(calls):
    """For each of the calls, in order: how many numbers are answered, and these."""
    mixer = Mixer()
    reader = Reader(calls)
    result = []
    while not reader.is_at_end():
        answer_call = BY_NUMBER[reader.number()]
        answer = answer_call(mixer, reader)
        result.append(len(answer))
        result.extend(answer)
    return result
