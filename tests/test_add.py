"""Point 2: add, and which cells are kept."""

import unittest

from model import EMPTY, NONE, TOP, add, ask, begin, last_of, run, summary

SMALL = begin(10, 2, 3, 4, 4, 3, 3, 2)
HUGE = 2 ** 64 - 1


class Ranges(unittest.TestCase):
    def check(self, call, answer):
        self.assertEqual(run(call), [[answer]], call)

    def test_channel(self):
        self.check(add(0, 5, 1), 0)
        self.check(add(63, 5, 1), 0)
        self.check(add(64, 5, 1), -1)
        self.check(add(HUGE, 5, 1), -1)

    def test_time(self):
        self.check(add(0, 0, 1), 0)
        self.check(add(0, TOP, 1), 0)
        self.check(add(0, TOP + 1, 1), -1)
        self.check(add(0, HUGE, 1), -1)

    def test_value(self):
        for good in (-TOP, -1, 0, 1, TOP, NONE):
            self.check(add(0, 5, good), 0)
        for wrong in (-TOP - 1, TOP + 1, NONE + 1, 2 ** 63 - 1):
            self.check(add(0, 5, wrong), -1)

    def test_marks(self):
        self.check(add(0, 5, 1, 0), 0)
        self.check(add(0, 5, 1, 255), 0)
        self.check(add(0, 5, 1, 256), -1)
        self.check(add(0, 5, 1, HUGE), -1)


class Taken(unittest.TestCase):
    def check(self, *measurements):
        calls = [SMALL] + [add(0, *measurement) for measurement in measurements]
        self.assertEqual(last_of(*calls, ask(0, 0, 10)), [0, 0, 10, 1] + summary(measurements))

    def test_ends_of_values_and_marks(self):
        self.check((0, -TOP, 0))
        self.check((9, TOP, 255))
        self.check((3, NONE, 128))
        self.check((3, 0, 1))

    def test_same_time_in_their_order(self):
        self.check((5, 8, 1), (5, 3, 2))
        self.check((5, 3, 2), (5, 8, 1))
        self.check((5, 3, 2), (5, 3, 2))
        self.check((5, NONE, 2), (5, 8, 1), (5, NONE, 4))

    def test_the_greatest_time_is_kept(self):
        # Widths 3, 6, 12, 24: the cell of 2^62 begins before it, so it can be asked for.
        calls = [begin(3, 2, 2, 2, 2, 2, 2, 2), add(0, TOP, 6, 7)]
        start = TOP // 3 * 3
        self.assertEqual(
            last_of(*calls, ask(0, TOP - 1, TOP)), [0, start, start + 3, 1] + summary([(TOP, 6, 7)]))


class BeforeTheLast(unittest.TestCase):
    def test_one_before(self):
        self.assertEqual(run(add(0, 5, 1), add(0, 4, 1)), [[0], [-4]])
        self.assertEqual(run(add(0, 5, 1), add(0, 0, 1)), [[0], [-4]])
        self.assertEqual(run(add(0, 5, 1), add(0, 5, 1), add(0, 6, 1)), [[0], [0], [0]])

    def test_none_counts_as_the_last(self):
        self.assertEqual(run(add(0, 5, NONE), add(0, 4, 1)), [[0], [-4]])
        self.assertEqual(run(add(0, 5, 1), add(0, 4, NONE)), [[0], [-4]])

    def test_all_is_as_it_was(self):
        kept = [(15, 1, 1), (25, 2, 2)]
        calls = [SMALL] + [add(0, *one) for one in kept]
        answer = [0, 0, 30, 2] + summary(kept)
        self.assertEqual(last_of(*calls, ask(0, 0, 100)), answer)
        for wrong in (add(0, 24, 9, 128), add(0, 0, -9, 64), add(0, 24, NONE)):
            answers = run(*calls, wrong, ask(0, 0, 100), add(0, 25, 3), add(0, 24, 3))
            self.assertEqual(answers[3:], [[-4], answer, [0], [-4]])

    def test_out_of_range_leaves_all(self):
        kept = [(15, 1, 1)]
        calls = [SMALL, add(0, 15, 1, 1)]
        answer = [0, 0, 20, 1] + summary(kept)
        for wrong in (add(64, 90, 1), add(0, TOP + 1, 1), add(0, 90, TOP + 1), add(0, 90, 1, 256)):
            answers = run(*calls, wrong, ask(0, 0, 100), add(0, 15, 3), add(0, 14, 3))
            self.assertEqual(answers[2:], [[-1], answer, [0], [-4]])

    def test_refused_does_not_make_a_channel(self):
        self.assertEqual(run(add(7, 5, 1, 256), ask(7, 0, 10)), [[-1], [-2]])

    def test_range_goes_first(self):
        self.assertEqual(
            run(add(0, 5, 1), add(0, 4, 1, 256), add(0, 4, TOP + 1), add(0, 4, NONE + 1)),
            [[0], [-1], [-1], [-1]])


class Apart(unittest.TestCase):
    def test_channels(self):
        calls = [SMALL, add(0, 500, 1, 1), add(63, 5, 2, 2), add(0, 501, 3, 4), add(63, 6, 4, 8)]
        self.assertEqual(run(*calls), [[0]] * 5)
        self.assertEqual(
            last_of(*calls, ask(0, 500, 510)), [0, 500, 510, 1] + summary([(500, 1, 1), (501, 3, 4)]))
        self.assertEqual(
            last_of(*calls, ask(63, 0, 600)), [0, 0, 10, 1] + summary([(5, 2, 2), (6, 4, 8)]))
        self.assertEqual(last_of(*calls, ask(1, 0, 600)), [-2])

    def test_each_channel_by_itself(self):
        calls = [SMALL] + [add(channel, 100 - channel, channel, channel) for channel in range(64)]
        self.assertEqual(run(*calls), [[0]] * 65)
        for channel in range(64):
            time = 100 - channel
            start = time // 10 * 10
            self.assertEqual(
                last_of(*calls, ask(channel, start, start + 10)),
                [0, start, start + 10, 1] + summary([(time, channel, channel)]))


class Kept(unittest.TestCase):
    """Widths 10, 20, 60, 240; kept 4, 3, 3, 2."""

    def test_dropped_measurements_stay_in_wider_cells(self):
        measurements = [(5, 1, 1), (15, 2, 2), (45, 3, 4)]
        calls = [SMALL] + [add(0, *one) for one in measurements]
        # The newest cell of level 0 is 4, so cell 0 is dropped and cell 1 is the oldest.
        self.assertEqual(last_of(*calls, ask(0, 10, 11)), [0, 10, 20, 1] + summary(measurements[1:2]))
        self.assertEqual(last_of(*calls, ask(0, 0, 1)), [0, 0, 20, 1] + summary(measurements[:2]))

    def test_cell_is_kept_until_it_is_one_too_old(self):
        calls = [SMALL, add(0, 5, 1), add(0, 39, 2)]
        self.assertEqual(last_of(*calls, ask(0, 0, 1)), [0, 0, 10, 1] + summary([(5, 1, 0)]))
        calls = calls + [add(0, 40, 3)]
        self.assertEqual(last_of(*calls, ask(0, 0, 1)), [0, 0, 20, 1] + summary([(5, 1, 0)]))

    def test_all_that_is_older_is_gone(self):
        calls = [SMALL, add(0, 5, 1, 255), add(0, 479, 2)]
        self.assertEqual(last_of(*calls, ask(0, 0, 1)), [0, 0, 240, 1] + summary([(5, 1, 255)]))
        calls = calls + [add(0, 480, 3)]
        self.assertEqual(last_of(*calls, ask(0, 0, 240)), [-2])
        self.assertEqual(last_of(*calls, ask(0, 0, 241)), [0, 240, 480, 1] + summary([(479, 2, 0)]))

    def test_empty_cells_count_as_kept_ones(self):
        calls = [SMALL, add(0, 5, 1), add(0, 100, 2)]
        self.assertEqual(last_of(*calls, ask(0, 80, 81)), [0, 80, 90, 1] + EMPTY)
        self.assertEqual(last_of(*calls, ask(0, 0, 1)), [0, 0, 60, 1] + summary([(5, 1, 0)]))


if __name__ == "__main__":
    unittest.main()
