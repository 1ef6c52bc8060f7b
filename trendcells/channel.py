"""One channel: its last measurement's time and its cells of all levels."""

from trendcells.level import Level, cover
from trendcells.summary import Summary, summary_of_one


class Channel:
    """A channel that gets its first measurement as soon as it is made."""

    def __init__(self, widths, kept):
        self.last = 0
        self.levels = [Level(pair[0], pair[1]) for pair in zip(widths, kept)]

    def add(self, time, value, marks):
        """Take in a measurement that isn't before the last."""
        one = summary_of_one(time, value, marks)
        for level in self.levels:
            level.add(time, one)
        self.last = time

    def runs_of(self, a, b):
        """The runs of cells that answer for the stretch; none if nothing's known."""
        x = max(a, self.levels[3].beginning())
        y = min(b, self.levels[0].end_of(self.last))
        return cover(self.levels, x, y)

    def told_levels(self):
        """Of each level the beginning of the oldest kept cell, and how many have measurements."""
        numbers = []
        for level in self.levels:
            numbers.append(level.beginning())
            numbers.append(len(level.summaries))
        return numbers


def told_runs(runs):
    """From when, till when, from how many cells, and the summary of all runs together."""
    together = Summary()
    for run in runs:
        for summary in run.stored():
            together.take_in(summary)
    cells = sum([run.many for run in runs])
    return [runs[0].begins(), runs[-1].ends(), cells] + together.told()


def told_cells(level, number, most):
    """How many cells are told, then the number and the summary of each."""
    numbers = level.numbers_from(number, most)
    answer = [len(numbers)]
    for cell in numbers:
        answer.append(cell)
        answer.extend(level.summaries[cell].told())
    return answer
