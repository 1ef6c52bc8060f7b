"""Point 1: begin, and what is set at first."""

import unittest

from model import FIRST, TOP, add, ask, begin, last_of, run, summary

GOOD = (10, 2, 3, 4, 4, 3, 3, 2)


def changed(place, number, numbers=GOOD):
    return numbers[:place] + (number,) + numbers[place + 1:]


def cell_at(calls, time):
    """Beginning and end of the cell that answers for that time alone."""
    return last_of(*calls, ask(0, time, time + 1))[1:3]


class Ranges(unittest.TestCase):
    def check(self, numbers, answer):
        self.assertEqual(run(begin(*numbers)), [[answer]], numbers)

    def test_good(self):
        self.check(GOOD, 0)
        self.check(FIRST, 0)

    def test_width(self):
        self.check(changed(0, 1), 0)
        self.check(changed(0, 2 ** 40), 0)
        for wrong in (0, 2 ** 40 + 1, 2 ** 64 - 1):
            self.check(changed(0, wrong), -1)

    def test_times(self):
        # So little is kept that the bound between the levels would hold with times of 1 too.
        low = (10, 2, 2, 2, 1, 2, 3, 4)
        for place in (1, 2, 3):
            self.check(changed(place, 2, low), 0)
            self.check(changed(place, 64, low), 0)
            for wrong in (0, 1, 65, 2 ** 64 - 1):
                self.check(changed(place, wrong, low), -1)

    def test_kept_least(self):
        self.check(changed(4, 1), 0)
        for place in (4, 5, 6, 7):
            self.check(changed(place, 0), -1)

    def test_kept_greatest(self):
        most = (10, 2, 2, 2, 4096, 4096, 4096, 4096)
        self.check(most, 0)
        for place in (4, 5, 6, 7):
            self.check(changed(place, 4097, most), -1)
            self.check(changed(place, 2 ** 64 - 1, most), -1)

    def test_all_at_their_greatest(self):
        self.check((2 ** 40, 64, 64, 64, 4096, 4096, 4096, 4096), 0)


class Bound(unittest.TestCase):
    """kept is at most times * (the next one's kept - 1)."""

    def test_each_level(self):
        # The other levels stay within their own bounds whatever this one keeps.
        cases = (
            (4, (10, 5, 60, 60, 0, 4, 100, 100), 15),
            (5, (10, 60, 5, 60, 1, 0, 4, 100), 15),
            (6, (10, 60, 60, 5, 1, 2, 0, 4), 15),
        )
        for place, numbers, bound in cases:
            for many, answer in ((bound, 0), (bound + 1, -1), (bound - 1, 0)):
                given = changed(place, many, numbers)
                self.assertEqual(run(begin(*given)), [[answer]], given)

    def test_a_next_level_that_keeps_one(self):
        for place in (5, 6, 7):
            given = changed(place, 1, (10, 64, 64, 64, 1, 2, 2, 2))
            self.assertEqual(run(begin(*given)), [[-1]], given)

    def test_two_are_enough_for_all(self):
        self.assertEqual(run(begin(10, 2, 2, 2, 2, 2, 2, 2)), [[0]])
        self.assertEqual(run(begin(10, 2, 2, 2, 3, 2, 2, 2)), [[-1]])


class Setting(unittest.TestCase):
    def test_sets_widths_and_kept(self):
        # Widths 10, 20, 60, 240; at 1234 the cells 123, 61, 20, 5 are the newest.
        calls = [begin(*GOOD), add(0, 1234, 5)]
        self.assertEqual(cell_at(calls, 1200), [1200, 1210])
        self.assertEqual(cell_at(calls, 1199), [1180, 1200])
        self.assertEqual(cell_at(calls, 1180), [1180, 1200])
        self.assertEqual(cell_at(calls, 1179), [1140, 1200])
        self.assertEqual(cell_at(calls, 1080), [1080, 1140])
        self.assertEqual(cell_at(calls, 1079), [960, 1200])
        self.assertEqual(cell_at(calls, 960), [960, 1200])
        self.assertEqual(last_of(*calls, ask(0, 959, 960)), [-2])

    def test_good_sets_anew(self):
        calls = [add(0, 5, 1), add(63, 5, 1), begin(*GOOD)]
        self.assertEqual(last_of(*calls, ask(0, 0, 10)), [-2])
        self.assertEqual(last_of(*calls, ask(63, 0, 10)), [-2])
        self.assertEqual(last_of(*calls, add(0, 4, 7)), [0])
        self.assertEqual(
            last_of(*calls, add(0, 4, 7), ask(0, 0, 10)), [0, 0, 10, 1] + summary([(4, 7, 0)]))

    def test_the_same_again_sets_anew(self):
        self.assertEqual(
            run(begin(*GOOD), add(0, 5, 1), begin(*GOOD), ask(0, 0, 10)), [[0], [0], [0], [-2]])

    def test_refused_leaves_all(self):
        calls = [begin(*GOOD), add(0, 5, 1, 3)]
        for wrong in (changed(0, 0), changed(2, 65), changed(7, 4097), changed(4, 5)):
            answers = run(*calls, begin(*wrong), ask(0, 0, 10), add(0, 4, 1), add(0, 25, 2), ask(0, 0, 40))
            self.assertEqual(answers[2:], [
                [-1],
                [0, 0, 10, 1] + summary([(5, 1, 3)]),
                [-4],
                [0],
                [0, 0, 30, 2] + summary([(5, 1, 3), (25, 2, 0)]),
            ])

    def test_refused_at_first_leaves_what_is_set_at_first(self):
        calls = [begin(*changed(1, 1)), add(0, 60000001, 4)]
        self.assertEqual(cell_at(calls, 60000000), [60000000, 120000000])


class AtFirst(unittest.TestCase):
    def check(self, calls):
        widths = [60000000, 3600000000, 86400000000, 2592000000000]
        last = 300 * widths[3] + 5 * widths[2] + 7 * widths[1] + 9 * widths[0] + 11
        calls = calls + [add(0, last, 1)]
        for level, kept in enumerate((1440, 720, 400, 120)):
            width = widths[level]
            oldest = (last // width - kept + 1) * width
            self.assertEqual(cell_at(calls, oldest), [oldest, oldest + width])
            if level < 3:
                wider = widths[level + 1]
                before = (oldest - 1) // wider * wider
                self.assertEqual(cell_at(calls, oldest - 1), [before, before + wider])
            else:
                self.assertEqual(last_of(*calls, ask(0, oldest - 1, oldest)), [-2])

    def test_without_begin(self):
        self.check([])

    def test_as_with_begin(self):
        self.check([begin(*FIRST)])

    def test_without_measurements(self):
        for channel in (0, 63):
            self.assertEqual(run(ask(channel, 0, TOP)), [[-2]])


if __name__ == "__main__":
    unittest.main()
