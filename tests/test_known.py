"""Point 5: known, a channel's last time, and how far back and with how many cells each level goes."""

import unittest

from model import FIRST, NONE, TOP, add, ask, begin, cells, forget, known, last_of, run

# Widths 10, 20, 60, 240.
SMALL = begin(10, 2, 3, 4, 4, 3, 3, 2)
HUGE = 2 ** 64 - 1


class Refused(unittest.TestCase):
    def test_nothing_known(self):
        for channel in (0, 1, 63):
            self.assertEqual(run(known(channel)), [[-2]])
        self.assertEqual(run(add(1, 5, 1), known(0), known(2)), [[0], [-2], [-2]])

    def test_behind_a_begin(self):
        self.assertEqual(last_of(add(0, 5, 1), SMALL, known(0)), [-2])
        self.assertEqual(last_of(SMALL, add(0, 5, 1), SMALL, known(0)), [-2])
        self.assertEqual(last_of(add(63, 5, 1), begin(*FIRST), known(63)), [-2])

    def test_behind_a_forget(self):
        self.assertEqual(last_of(add(0, 5, 1), forget(0), known(0)), [-2])

    def test_behind_a_refused_add(self):
        self.assertEqual(run(add(0, 5, 1, 256), known(0)), [[-1], [-2]])

    def test_channel(self):
        for channel in (0, 63):
            self.assertEqual(last_of(SMALL, add(channel, 5, 1), known(channel)), [0, 5, 0, 1, 0, 1, 0, 1, 0, 1])
        for wrong in (64, 65, 2 ** 32, HUGE):
            self.assertEqual(run(known(wrong)), [[-1]])
            self.assertEqual(run(add(0, 5, 1), add(63, 5, 1), known(wrong)), [[0], [0], [-1]])


class Last(unittest.TestCase):
    def check(self, calls, last):
        self.assertEqual(last_of(SMALL, *calls, known(0))[:2], [0, last])

    def test_last_time(self):
        self.check([add(0, 0, 1)], 0)
        self.check([add(0, 5, 1)], 5)
        self.check([add(0, 5, 1), add(0, 5, 2)], 5)
        self.check([add(0, 5, 1), add(0, 77, 2)], 77)
        self.check([add(0, TOP, 1)], TOP)

    def test_none_is_a_measurement(self):
        self.check([add(0, 5, 1), add(0, 77, NONE)], 77)
        self.assertEqual(last_of(SMALL, add(0, 5, NONE), known(0)), [0, 5, 0, 1, 0, 1, 0, 1, 0, 1])

    def test_refused_does_not_count(self):
        self.check([add(0, 5, 1), add(0, 4, 1)], 5)
        self.check([add(0, 5, 1), add(0, 99, 1, 256)], 5)
        self.check([add(0, 5, 1), add(0, 99, TOP + 1)], 5)
        self.check([add(0, 5, 1), add(0, TOP + 1, 1)], 5)

    def test_other_channels_do_not_count(self):
        self.check([add(0, 5, 1), add(1, 99, 1)], 5)


class Beginnings(unittest.TestCase):
    """Kept are 4, 3, 3, 2 cells."""

    def check(self, times, beginnings):
        calls = [SMALL] + [add(0, time, 1) for time in times]
        self.assertEqual(last_of(*calls, known(0))[2::2], beginnings, times)

    def test_none_dropped_yet(self):
        self.check([0], [0, 0, 0, 0])
        self.check([39], [0, 0, 0, 0])
        self.check([0, 39], [0, 0, 0, 0])

    def test_first_of_each_level(self):
        self.check([40], [10, 0, 0, 0])
        self.check([59], [20, 0, 0, 0])
        self.check([60], [30, 20, 0, 0])
        self.check([179], [140, 120, 0, 0])
        self.check([180], [150, 140, 60, 0])
        self.check([479], [440, 420, 300, 0])
        self.check([480], [450, 440, 360, 240])

    def test_later(self):
        self.check([719], [680, 660, 540, 240])
        self.check([720], [690, 680, 600, 480])
        self.check([995], [960, 940, 840, 720])

    def test_step_by_step(self):
        times = list(range(0, 1000, 7))
        for many in range(1, len(times) + 1, 5):
            last = times[many - 1]
            beginnings = [
                max(0, last // width - kept + 1) * width
                for width, kept in ((10, 4), (20, 3), (60, 3), (240, 2))]
            self.check(times[:many], beginnings)

    def test_greatest_time(self):
        beginnings = [(TOP // width - kept + 1) * width for width, kept in ((10, 4), (20, 3), (60, 3), (240, 2))]
        self.check([TOP], beginnings)
        self.check([5, TOP], beginnings)

    def test_what_is_set_at_first(self):
        widths = (60000000, 3600000000, 86400000000, 2592000000000)
        for level, kept in enumerate((1440, 720, 400, 120)):
            edge = kept * widths[level]
            place = 2 + 2 * level
            self.assertEqual(last_of(add(0, edge - 1, 1), known(0))[place], 0)
            self.assertEqual(last_of(add(0, edge, 1), known(0))[place], widths[level])

    def test_ask_begins_where_level_3_does(self):
        for time in (479, 480, 995):
            answers = run(SMALL, add(0, time, 1), known(0), ask(0, 0, TOP))
            self.assertEqual(answers[2][8], answers[3][1])

    def test_never_goes_back(self):
        self.check([480, 481, 490], [460, 440, 360, 240])


class HowMany(unittest.TestCase):
    def check(self, times, counts):
        calls = [SMALL] + [add(0, time, 1) for time in times]
        self.assertEqual(last_of(*calls, known(0))[3::2], counts, times)

    def test_several_in_one(self):
        self.check([5], [1, 1, 1, 1])
        self.check([5, 5, 9], [1, 1, 1, 1])

    def test_each_level(self):
        self.check([5, 15], [2, 1, 1, 1])
        self.check([5, 15, 25], [3, 2, 1, 1])
        self.check([35, 45, 65], [3, 3, 2, 1])
        self.check([235, 245], [2, 2, 2, 2])

    def test_gaps(self):
        self.check([5, 35], [2, 2, 1, 1])
        self.check([5, 125], [1, 1, 2, 1])
        self.check([5, 245], [1, 1, 1, 2])

    def test_behind_dropped_cells(self):
        self.check([5, 39], [2, 2, 1, 1])
        self.check([5, 40], [1, 2, 1, 1])
        self.check([5, 60], [1, 1, 2, 1])
        self.check([5, 180], [1, 1, 1, 1])
        self.check([5, 479], [1, 1, 1, 2])
        self.check([5, 480], [1, 1, 1, 1])
        self.check(range(0, 1000, 5), [4, 3, 3, 2])
        self.check(list(range(0, 1000, 5)) + [1015], [3, 3, 3, 2])
        self.check(list(range(0, 1000, 5)) + [1025], [2, 2, 3, 2])
        self.check(list(range(0, 1000, 5)) + [10 ** 15], [1, 1, 1, 1])

    def test_as_many_as_cells_tells(self):
        calls = [SMALL] + [add(0, time, 1) for time in (5, 100, 410, 435, 480, 500, 507)]
        counts = last_of(*calls, known(0))[3::2]
        for level in range(4):
            self.assertEqual(last_of(*calls, cells(0, level, 0, HUGE))[0], counts[level])


class ChangesNothing(unittest.TestCase):
    def test_twice(self):
        answers = run(SMALL, add(0, 5, 1), known(0), known(0), known(64), known(1), known(0), known(1))
        self.assertEqual(answers[2], answers[3])
        self.assertEqual(answers[4:], [[-1], [-2], answers[2], [-2]])

    def test_channels_apart(self):
        calls = [SMALL, add(0, 995, 1), add(63, 5, 1), add(63, 15, 1)]
        self.assertEqual(last_of(*calls, known(0)), [0, 995, 960, 1, 940, 1, 840, 1, 720, 1])
        self.assertEqual(last_of(*calls, known(63)), [0, 15, 0, 2, 0, 1, 0, 1, 0, 1])

    def test_refused_begin_leaves_all(self):
        calls = [SMALL, add(0, 995, 1)]
        self.assertEqual(
            last_of(*calls, begin(10, 2, 3, 4, 5, 3, 3, 2), known(0)), last_of(*calls, known(0)))


if __name__ == "__main__":
    unittest.main()
