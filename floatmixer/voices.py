"""A voice: a filter over the samples that came and went last, and a gain that steps towards its goal."""

from floatmixer.singles import is_below, minus, plus, times

SETTINGS = 9


class Voice:
    def __init__(self):
        self.p = [0] * SETTINGS
        self.x1 = 0
        self.x2 = 0
        self.y1 = 0
        self.y2 = 0
        self.gain = 0

    def sound(self, x):
        """Takes the sample x in; gives back what goes to both sides, ahead of each side's own level."""
        y = self.filtered(x)
        w = times(y, self.gain)
        self.x2 = self.x1
        self.x1 = x
        self.y2 = self.y1
        self.y1 = y
        self.gain = stepped_gain(self.gain, self.p[7], self.p[8])
        return w

    def filtered(self, x):
        y = times(self.p[0], x)
        y = plus(y, times(self.p[1], self.x1))
        y = plus(y, times(self.p[2], self.x2))
        y = minus(y, times(self.p[3], self.y1))
        return minus(y, times(self.p[4], self.y2))

    def sides(self, x, left, right):
        """The rows left and right as they are when x has gone through the voice: a pair."""
        new_left = []
        new_right = []
        for sample, left_sample, right_sample in zip(x, left, right):
            w = self.sound(sample)
            new_left.append(plus(left_sample, times(w, self.p[5])))
            new_right.append(plus(right_sample, times(w, self.p[6])))
        return (new_left, new_right)


def stepped_gain(gain, goal, step):
    """The gain one step nearer to the goal, which it doesn't pass."""
    if is_below(gain, goal):
        more = plus(gain, step)
        return goal if is_below(goal, more) else more
    if is_below(goal, gain):
        less = minus(gain, step)
        return goal if is_below(less, goal) else less
    return gain
