"""All calls together: many made-up lists against a plain model."""

import random
import unittest

from model import FIRST, NONE, TOP, Model, add, ask, begin, cells, forget, known, run


def made_setting(rng):
    """A good setting, often with as much kept as the bound allows."""
    times = [rng.choice((2, 2, 3, 4, 5, 64)) for place in range(3)]
    kept = [rng.choice((2, 2, 3, 4, 6))]
    for many in reversed(times):
        bound = min(4096, many * (kept[0] - 1))
        least = 1 if len(kept) == 3 else 2
        kept.insert(0, rng.choice((bound, bound, rng.randint(least, bound))))
    return [rng.choice((1, 2, 3, 7, 10, 1000))] + times + kept


def made_value(rng):
    return rng.choice((NONE, TOP, -TOP, rng.randint(-TOP, TOP), rng.randint(-5, 5), rng.randint(-5, 5)))


def made_step(rng, widths):
    width = rng.choice(widths)
    return rng.choice((0, 1, rng.randint(0, width), rng.randint(0, 3 * width), width))


def made_stretch(rng, widths, last):
    """Around cells' edges, ahead of what is kept, and behind the last."""
    ends = []
    for place in range(2):
        width = rng.choice(widths)
        at = last - rng.randint(-2, 12) * width + rng.randint(-width, width)
        edge = at // width * width + rng.choice((-1, 0, 0, 0, 1))
        ends.append(max(0, rng.choice((at, edge, edge, 0))))
    return min(ends), max(ends)


def made_number(rng, widths, level, last):
    """Mostly around the kept cells, at times far ahead of them or behind."""
    newest = last // widths[level]
    return rng.choice((0, max(0, newest - rng.randint(-1, 8)), max(0, newest - rng.randint(0, 3)), 2 ** 64 - 1))


class Random(unittest.TestCase):
    def take(self, call, answer):
        self.calls.append(call)
        self.expected.append(answer)

    def start(self, seed, setting):
        self.rng = random.Random(seed)
        self.model = Model()
        self.calls = []
        self.expected = []
        self.take(begin(*setting), self.model.begin(*setting))
        self.lasts = {0: self.rng.choice((0, 0, 12345)), 5: 0}

    def compare(self, seed):
        self.assertEqual(run(*self.calls), self.expected, (seed, self.calls))

    def add(self, channel):
        self.lasts[channel] += made_step(self.rng, self.model.widths)
        back = self.rng.choice((0,) * 19 + (1,))
        time = max(0, self.lasts[channel] - back)
        numbers = (channel, time, made_value(self.rng), self.rng.randint(0, 255))
        self.take(add(*numbers), self.model.add(*numbers))

    def ask(self, channel):
        a, b = made_stretch(self.rng, self.model.widths, self.lasts[channel])
        self.take(ask(channel, a, b), self.model.ask(channel, a, b) if a < b else [-1])

    def cells(self, channel):
        level = self.rng.randrange(4)
        number = made_number(self.rng, self.model.widths, level, self.lasts[channel])
        most = self.rng.choice((0, 1, 2, 3, 5, 4096, 2 ** 64 - 1))
        self.take(cells(channel, level, number, most), self.model.cells(channel, level, number, most))

    def known(self, channel):
        self.take(known(channel), self.model.known(channel))

    def forget(self, channel):
        self.lasts[channel] = self.rng.randint(0, self.lasts[channel])
        self.take(forget(channel), self.model.forget(channel))

    def begin(self, setting):
        self.lasts = {0: 0, 5: 0}
        self.take(begin(*setting), self.model.begin(*setting))

    def refused(self, channel):
        """Wrong numbers, all else being good: all stays as it was."""
        self.take(self.rng.choice((
            begin(0, 2, 2, 2, 2, 2, 2, 2), begin(10, 2, 2, 2, 3, 2, 2, 2), add(64, 5, 1),
            add(channel, self.lasts[channel], TOP + 1), add(channel, TOP + 1, 1), ask(channel, 5, 5),
            ask(channel, 0, TOP + 1), cells(channel, 4, 0, 9), cells(64, 0, 0, 9), known(64), forget(64),
        )), [-1])

    def check_stretches(self, seed, setting):
        self.start(seed, setting)
        for place in range(40):
            channel = self.rng.choice((0, 0, 0, 5))
            if self.rng.random() < 0.6:
                self.add(channel)
            else:
                self.ask(channel)
        self.compare(seed)

    def check_all(self, seed, setting):
        self.start(seed, setting)
        for place in range(60):
            channel = self.rng.choice((0, 0, 0, 5))
            call = self.rng.choice(
                [self.add] * 30 + [self.ask] * 8 + [self.cells] * 12 + [self.known] * 6 + [self.forget] * 2
                + [self.refused] * 3)
            call(channel)
            if self.rng.random() < 0.01:
                self.begin(made_setting(self.rng))
        self.compare(seed)

    def test_made_settings(self):
        for seed in range(1500):
            self.check_stretches(seed, made_setting(random.Random(-seed - 1)))

    def test_made_settings_all_calls(self):
        for seed in range(1500):
            self.check_all(seed, made_setting(random.Random(-seed - 1)))

    def test_what_is_set_at_first(self):
        for seed in range(20):
            self.check_stretches(seed, FIRST)
            self.check_all(seed, FIRST)


if __name__ == "__main__":
    unittest.main()
