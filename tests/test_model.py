"""Points 1 to 3 together: many made-up lists against a plain model."""

import random
import unittest

from model import FIRST, NONE, TOP, Model, add, ask, begin, run


def made_setting(rng):
    """A good setting, often with as much kept as the bound allows."""
    times = [rng.choice((2, 2, 3, 4, 5, 64)) for place in range(3)]
    kept = [rng.choice((2, 2, 3, 4, 6))]
    for many in reversed(times):
        bound = min(4096, many * (kept[0] - 1))
        least = 1 if len(kept) == 3 else 2
        kept.insert(0, rng.choice((bound, bound, rng.randint(least, bound))))
    return [rng.choice((1, 2, 3, 7, 10, 1000))] + times + kept


def made_value(rng):
    return rng.choice((NONE, TOP, -TOP, rng.randint(-TOP, TOP), rng.randint(-5, 5), rng.randint(-5, 5)))


def made_step(rng, widths):
    width = rng.choice(widths)
    return rng.choice((0, 1, rng.randint(0, width), rng.randint(0, 3 * width), width))


def made_stretch(rng, widths, last):
    """Around cells' edges, ahead of what is kept, and behind the last."""
    ends = []
    for place in range(2):
        width = rng.choice(widths)
        at = last - rng.randint(-2, 12) * width + rng.randint(-width, width)
        edge = at // width * width + rng.choice((-1, 0, 0, 0, 1))
        ends.append(max(0, rng.choice((at, edge, edge, 0))))
    return min(ends), max(ends)


class Random(unittest.TestCase):
    def check(self, seed, setting):
        rng = random.Random(seed)
        model = Model()
        model.begin(*setting)
        calls = [begin(*setting)]
        expected = [[0]]
        lasts = {0: rng.choice((0, 0, 12345)), 5: 0}
        for place in range(40):
            channel = rng.choice((0, 0, 0, 5))
            if rng.random() < 0.6:
                lasts[channel] += made_step(rng, model.widths)
                numbers = (channel, lasts[channel], made_value(rng), rng.randint(0, 255))
                calls.append(add(*numbers))
                expected.append(model.add(*numbers))
            else:
                a, b = made_stretch(rng, model.widths, lasts[channel])
                calls.append(ask(channel, a, b))
                expected.append(model.ask(channel, a, b) if a < b else [-1])
        self.assertEqual(run(*calls), expected, (seed, calls))

    def test_made_settings(self):
        for seed in range(1500):
            self.check(seed, made_setting(random.Random(-seed - 1)))

    def test_what_is_set_at_first(self):
        for seed in range(20):
            self.check(seed, FIRST)


if __name__ == "__main__":
    unittest.main()
