"""The cells of one level of one channel, and how levels cover a stretch."""

from trendcells.summary import Summary


class Level:
    """The kept cells of one width. Only cells with measurements are stored."""

    def __init__(self, width, kept):
        self.width = width
        self.kept = kept
        self.oldest = 0
        self.summaries = {}

    def add(self, time, one):
        """Take a single measurement's summary into the cell of its time."""
        number = time // self.width
        self.drop_before(number - self.kept + 1)
        if number not in self.summaries:
            self.summaries[number] = Summary()
        self.summaries[number].take_in(one)

    def drop_before(self, oldest):
        if oldest <= self.oldest:
            return
        self.oldest = oldest
        # Times never fall, so the stored numbers rise and the old ones come first.
        for number in list(self.summaries):
            if number >= oldest:
                break
            self.summaries.pop(number)

    def beginning(self):
        """The beginning of the oldest kept cell; 0 if none was dropped yet."""
        return self.oldest * self.width

    def keeps(self, time):
        return time // self.width >= self.oldest

    def end_of(self, time):
        """The end of the cell in which time is."""
        return (time // self.width + 1) * self.width

    def summaries_from(self, number, many):
        """The stored summaries of many cells from number on, in their order."""
        # Whichever is shorter is walked: wide stretches are mostly empty cells.
        if many < len(self.summaries):
            numbers = [n for n in range(number, number + many) if n in self.summaries]
        else:
            numbers = [n for n in self.summaries if number <= n < number + many]
        return [self.summaries[n] for n in numbers]

    def numbers_from(self, number, most):
        """The first most numbers of cells with measurements from number on, rising."""
        # Times never fall, so the stored numbers rise as they stand.
        return [n for n in self.summaries if n >= number][:most]


class Run:
    """Cells of one level, one behind another."""

    def __init__(self, level, number, many):
        self.level = level
        self.number = number
        self.many = many

    def begins(self):
        return self.number * self.level.width

    def ends(self):
        return (self.number + self.many) * self.level.width

    def stored(self):
        return self.level.summaries_from(self.number, self.many)


def cover(levels, x, y):
    """The runs of cells that cover the time from x to before y.

    levels go from the narrowest to the widest; the widest keeps the cell of x.
    """
    runs = []
    at = x
    while at < y:
        run = widest_run(levels, at, y)
        if run is None:
            run = narrowest_run(levels, at)
        runs.append(run)
        at = run.ends()
    return runs


def widest_run(levels, at, y):
    """The widest kept cells that begin at that time and end at y at the latest, or None."""
    reach = y
    for level in reversed(levels):
        if level.keeps(at) and at % level.width == 0 and at + level.width <= reach:
            return Run(level, at // level.width, (reach - at) // level.width)
        # Where a wider cell may begin, the choice has to be made anew.
        reach = min(reach, level.end_of(at))
    return None


def narrowest_run(levels, at):
    """The narrowest kept cell in which that time is."""
    keeping = [level for level in levels if level.keeps(at)]
    return Run(keeping[0], at // keeping[0].width, 1)
