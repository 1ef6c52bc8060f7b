"""What the tests share: how calls are written, and a plain model that keeps all measurements."""

from trendcells.station import answers

NONE = -2 ** 63
TOP = 2 ** 62
FIRST = (60000000, 60, 24, 30, 1440, 720, 400, 120)
EMPTY = [0, 0, NONE, NONE, 0, 0, NONE, 0, NONE, 0, NONE, 0]


def begin(*numbers):
    return [1, *numbers]


def add(channel, time, value, marks=0):
    return [2, channel, time, value, marks]


def ask(channel, a, b):
    return [3, channel, a, b]


def cells(channel, level, number, most):
    return [4, channel, level, number, most]


def known(channel):
    return [5, channel]


def forget(channel):
    return [6, channel]


def split(numbers):
    """The answers one by one; fails if the counts don't fit the list."""
    found = []
    at = 0
    while at < len(numbers):
        many = numbers[at]
        answer = numbers[at + 1:at + 1 + many]
        if many < 1 or len(answer) != many:
            raise AssertionError(f"the count at {at} doesn't fit: {numbers}")
        found.append(answer)
        at += 1 + many
    return found


def run(*calls):
    """The answers to these calls, a list each."""
    return split(answers([number for call in calls for number in call]))


def last_of(*calls):
    return run(*calls)[-1]


def mean_of(values):
    total = sum(values)
    low = total // len(values)
    over = 2 * (total - low * len(values))
    if over > len(values) or (over == len(values) and total > 0):
        return low + 1
    return low


def summary(measurements):
    """The twelve numbers of (time, value, marks) in their order."""
    valued = [(time, value) for time, value, marks in measurements if value != NONE]
    marks = 0
    for measurement in measurements:
        marks |= measurement[2]
    if not valued:
        return [len(measurements), len(measurements)] + EMPTY[2:11] + [marks]
    values = [value for time, value in valued]
    return [
        len(measurements), len(measurements) - len(valued), min(values), max(values),
        sum(values) // TOP, sum(values) % TOP, mean_of(values),
        *valued[0], *valued[-1], marks,
    ]


class Model:
    """Follows the document word by word, cell by cell, over all measurements."""

    def __init__(self):
        self.begin(*FIRST)

    def begin(self, width, times1, times2, times3, *kept):
        self.widths = [width, width * times1, width * times1 * times2, width * times1 * times2 * times3]
        self.kept = kept
        self.measurements = {}
        return [0]

    def add(self, channel, time, value, marks):
        had = self.measurements.setdefault(channel, [])
        if had and time < had[-1][0]:
            return [-4]
        had.append((time, value, marks))
        return [0]

    def is_kept(self, level, number, last):
        newest = last // self.widths[level]
        return newest - self.kept[level] < number <= newest

    def cell_at(self, at, y, last):
        for level in (3, 2, 1, 0):
            width = self.widths[level]
            if at % width == 0 and at + width <= y and self.is_kept(level, at // width, last):
                return at, at + width
        for level in (0, 1, 2, 3):
            width = self.widths[level]
            if self.is_kept(level, at // width, last):
                return at // width * width, at // width * width + width
        raise AssertionError(f"no cell is kept at {at}")

    def ask(self, channel, a, b):
        had = self.measurements.get(channel, [])
        if not had:
            return [-2]
        last = had[-1][0]
        oldest = max(0, last // self.widths[3] - self.kept[3] + 1)
        at = max(a, oldest * self.widths[3])
        y = min(b, last // self.widths[0] * self.widths[0] + self.widths[0])
        if y <= at:
            return [-2]
        covering = []
        while at < y:
            covering.append(self.cell_at(at, y, last))
            at = covering[-1][1]
        covered = [one for cell in covering for one in had if cell[0] <= one[0] < cell[1]]
        return [0, covering[0][0], covering[-1][1], len(covering)] + summary(covered)

    def stored(self, channel, level):
        """The measurements of each kept cell that has some, by its number."""
        found = {}
        had = self.measurements.get(channel, [])
        for one in had:
            number = one[0] // self.widths[level]
            if self.is_kept(level, number, had[-1][0]):
                found.setdefault(number, []).append(one)
        return found

    def cells(self, channel, level, number, most):
        found = self.stored(channel, level)
        numbers = sorted(n for n in found if n >= number)[:most]
        answer = [len(numbers)]
        for n in numbers:
            answer += [n] + summary(found[n])
        return answer

    def known(self, channel):
        had = self.measurements.get(channel, [])
        if not had:
            return [-2]
        last = had[-1][0]
        answer = [0, last]
        for level in (0, 1, 2, 3):
            oldest = last // self.widths[level] - self.kept[level] + 1
            answer += [max(0, oldest) * self.widths[level], len(self.stored(channel, level))]
        return answer

    def forget(self, channel):
        self.measurements[channel] = []
        return [0]
