"""The station and its calls."""

from trendcells.channel import Channel, told_cells, told_runs
from trendcells.summary import GREATEST, NO_VALUE

# Numbers of calls; forget, 6, is the one that is left.
BEGIN = 1
ADD = 2
ASK = 3
CELLS = 4
KNOWN = 5

# How many numbers stand behind a call's own: begin, add, ask, cells, known, forget.
GIVEN = {1: 8, 2: 4, 3: 3, 4: 4, 5: 1, 6: 1}

NOT_IN_RANGE = -1
NOTHING_KNOWN = -2
BEFORE_THE_LAST = -4

FIRST_WIDTH = 60000000
FIRST_TIMES = (60, 24, 30)
FIRST_KEPT = (1440, 720, 400, 120)

# 2^40
WIDEST_WIDTH = 1099511627776


def answers(calls):
    """The answers to all calls of the list, each with how many numbers it has before it."""
    station = Station()
    answered = []
    at = 0
    while at < len(calls):
        end = at + 1 + GIVEN[calls[at]]
        answer = answer_of(station, calls[at], calls[at + 1:end])
        answered.append(len(answer))
        answered.extend(answer)
        at = end
    return answered


def answer_of(station, call, given):
    if call == BEGIN:
        return station.begin(given[0], given[1:4], given[4:8])
    if call == ADD:
        return station.add(given[0], given[1], given[2], given[3])
    if call == ASK:
        return station.ask(given[0], given[1], given[2])
    if call == CELLS:
        return station.cells(given[0], given[1], given[2], given[3])
    if call == KNOWN:
        return station.known(given[0])
    return station.forget(given[0])


class Station:
    """Channels with measurements, all with the same widths and numbers of kept cells."""

    def __init__(self):
        self.set_anew(FIRST_WIDTH, FIRST_TIMES, FIRST_KEPT)

    def set_anew(self, width, times, kept):
        self.widths = widths_from(width, times)
        self.kept = kept
        self.channels = {}

    def begin(self, width, times, kept):
        if not can_begin(width, times, kept):
            return [NOT_IN_RANGE]
        self.set_anew(width, times, kept)
        return [0]

    def add(self, channel, time, value, marks):
        if not can_add(channel, time, value, marks):
            return [NOT_IN_RANGE]
        if channel not in self.channels:
            self.channels[channel] = Channel(self.widths, self.kept)
        if time < self.channels[channel].last:
            return [BEFORE_THE_LAST]
        self.channels[channel].add(time, value, marks)
        return [0]

    def ask(self, channel, a, b):
        if not can_ask(channel, a, b):
            return [NOT_IN_RANGE]
        if channel not in self.channels:
            return [NOTHING_KNOWN]
        runs = self.channels[channel].runs_of(a, b)
        if len(runs) == 0:
            return [NOTHING_KNOWN]
        return [0] + told_runs(runs)

    def cells(self, channel, level, number, most):
        if not is_channel(channel) or not is_level(level):
            return [NOT_IN_RANGE]
        if channel not in self.channels:
            return [0]
        return told_cells(self.channels[channel].levels[level], number, most)

    def known(self, channel):
        if not is_channel(channel):
            return [NOT_IN_RANGE]
        if channel not in self.channels:
            return [NOTHING_KNOWN]
        return [0, self.channels[channel].last] + self.channels[channel].told_levels()

    def forget(self, channel):
        if not is_channel(channel):
            return [NOT_IN_RANGE]
        if channel in self.channels:
            self.channels.pop(channel)
        return [0]


def widths_from(width, times):
    """The widths of all levels: each next one is so many times the one before."""
    widths = [width]
    for many in times:
        widths.append(widths[-1] * many)
    return widths


def can_begin(width, times, kept):
    return (
        1 <= width <= WIDEST_WIDTH
        and all([2 <= many <= 64 for many in times])
        and all([1 <= many <= 4096 for many in kept])
        and keeps_reach(times, kept)
    )


def keeps_reach(times, kept):
    """Whether no level keeps more than the next one's kept cells, less one, have room for."""
    # The next level's newest cell may have just begun, so it doesn't count as room.
    return all([kept[k] <= times[k] * (kept[k + 1] - 1) for k in range(3)])


def can_add(channel, time, value, marks):
    return is_channel(channel) and is_time(time) and is_value(value) and 0 <= marks <= 255


def can_ask(channel, a, b):
    return is_channel(channel) and is_time(a) and is_time(b) and a < b


def is_channel(number):
    return 0 <= number <= 63


def is_level(number):
    return 0 <= number <= 3


def is_time(number):
    return 0 <= number <= GREATEST


def is_value(number):
    return number == NO_VALUE or -GREATEST <= number <= GREATEST
