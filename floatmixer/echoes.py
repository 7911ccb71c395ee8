"""The echo's line: what was put into it comes back some places later."""

from floatmixer.singles import plus, times

PLACES = 8192


class EchoLine:
    def __init__(self):
        self.line = [0] * PLACES
        self.place = 0

    def echoed(self, delay, back, wet, x):
        """The row x with its echoes; the delay is from 1 to PLACES."""
        heard = []
        for sample in x:
            echo = self.line[(self.place - delay) % PLACES]
            self.line[self.place] = plus(sample, times(back, echo))
            self.place = (self.place + 1) % PLACES
            heard.append(plus(sample, times(wet, echo)))
        return heard
