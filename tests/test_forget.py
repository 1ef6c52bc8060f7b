"""Point 6: forget, a channel without its measurements."""

import unittest

from model import TOP, add, ask, begin, cells, forget, known, last_of, run, summary

# Widths 10, 20, 60, 240.
SMALL = begin(10, 2, 3, 4, 4, 3, 3, 2)
HUGE = 2 ** 64 - 1


def questions(channel):
    return [ask(channel, 0, TOP), known(channel)] + [cells(channel, level, 0, HUGE) for level in range(4)]


NOTHING = [[-2], [-2], [0], [0], [0], [0]]


def answers_behind(calls, channel):
    return run(*calls, *questions(channel))[len(calls):]


class Answers(unittest.TestCase):
    def test_with_measurements(self):
        for channel in (0, 1, 63):
            self.assertEqual(run(SMALL, add(channel, 5, 1), forget(channel)), [[0], [0], [0]])

    def test_without_measurements(self):
        for channel in (0, 1, 63):
            self.assertEqual(run(forget(channel)), [[0]])
            self.assertEqual(run(add(2, 5, 1), forget(channel)), [[0], [0]])

    def test_twice(self):
        self.assertEqual(run(add(0, 5, 1), forget(0), forget(0)), [[0], [0], [0]])

    def test_not_a_channel(self):
        for wrong in (64, 65, 2 ** 32, HUGE):
            self.assertEqual(run(forget(wrong)), [[-1]])
            self.assertEqual(run(add(0, 5, 1), add(63, 5, 1), forget(wrong)), [[0], [0], [-1]])


class Behind(unittest.TestCase):
    def test_no_measurements(self):
        for channel in (0, 1, 63):
            self.assertEqual(answers_behind([SMALL, add(channel, 5, 1, 3), forget(channel)], channel), NOTHING)
            self.assertEqual(answers_behind([add(channel, 5, 1, 3), forget(channel)], channel), NOTHING)
            self.assertEqual(answers_behind([forget(channel)], channel), NOTHING)

    def test_no_measurements_in_many_cells(self):
        calls = [SMALL] + [add(0, time, time) for time in range(0, 1000, 5)]
        self.assertEqual(answers_behind(calls + [forget(0)], 0), NOTHING)

    def test_earlier_time_is_taken_in(self):
        calls = [SMALL, add(0, 995, 1, 1), forget(0), add(0, 25, 2, 2)]
        self.assertEqual(run(*calls), [[0]] * 4)
        self.assertEqual(answers_behind(calls, 0), answers_behind([SMALL, add(0, 25, 2, 2)], 0))
        self.assertEqual(last_of(*calls, add(0, 24, 1)), [-4])

    def test_least_time_is_taken_in(self):
        calls = [SMALL, add(0, TOP, 1, 1), forget(0), add(0, 0, 2, 2)]
        self.assertEqual(last_of(*calls), [0])
        self.assertEqual(last_of(*calls, ask(0, 0, TOP)), [0, 0, 10, 1] + summary([(0, 2, 2)]))

    def test_cells_that_were_dropped_are_there_again(self):
        calls = [SMALL, add(0, 995, 1), forget(0), add(0, 5, 3)]
        self.assertEqual(last_of(*calls, known(0)), [0, 5, 0, 1, 0, 1, 0, 1, 0, 1])
        self.assertEqual(last_of(*calls, cells(0, 0, 0, 9)), [1, 0] + summary([(5, 3, 0)]))

    def test_same_time_does_not_bring_it_back(self):
        calls = [SMALL, add(0, 5, 1, 1), forget(0), add(0, 5, 2, 2)]
        self.assertEqual(last_of(*calls, ask(0, 0, TOP)), [0, 0, 10, 1] + summary([(5, 2, 2)]))

    def test_what_was_set_stays(self):
        calls = [SMALL, add(0, 5, 1), forget(0), add(0, 995, 1)]
        self.assertEqual(last_of(*calls, known(0)), [0, 995, 960, 1, 940, 1, 840, 1, 720, 1])
        self.assertEqual(last_of(SMALL, forget(0), add(0, 995, 1), known(0)), last_of(*calls, known(0)))
        self.assertEqual(last_of(*calls, add(1, 995, 1), known(1)), last_of(*calls, known(0)))

    def test_what_is_set_at_first_stays(self):
        calls = [add(0, 5, 1), forget(0), add(0, 60000001, 1)]
        self.assertEqual(last_of(*calls, ask(0, 60000000, TOP))[1:3], [60000000, 120000000])

    def test_begin_behind_it(self):
        calls = [add(0, 5, 1), forget(0), SMALL]
        self.assertEqual(answers_behind(calls, 0), NOTHING)
        self.assertEqual(last_of(*calls, add(0, 995, 1), known(0))[2::2], [960, 940, 840, 720])


class Beside(unittest.TestCase):
    def test_other_channels_are_as_they_were(self):
        calls = [SMALL]
        for channel in (0, 1, 2, 63):
            calls += [add(channel, 480 + time, channel, channel) for time in (0, 10, 25, 70)]
        for gone in (0, 1, 2, 63):
            for stays in (0, 1, 2, 63):
                before = answers_behind(calls, stays)
                after = answers_behind(calls + [forget(gone)], stays)
                self.assertEqual(after, NOTHING if stays == gone else before, (gone, stays))

    def test_others_last_stays(self):
        calls = [SMALL, add(0, 50, 1), add(1, 50, 1), forget(0)]
        self.assertEqual(last_of(*calls, add(1, 49, 1)), [-4])
        self.assertEqual(last_of(*calls, add(0, 49, 1)), [0])

    def test_without_measurements_leaves_others(self):
        calls = [SMALL, add(1, 50, 1)]
        self.assertEqual(answers_behind(calls + [forget(0)], 1), answers_behind(calls, 1))

    def test_refused_leaves_all(self):
        calls = [SMALL, add(0, 50, 1), add(63, 60, 1)]
        for wrong in (64, 127, HUGE):
            for channel in (0, 63):
                self.assertEqual(
                    answers_behind(calls + [forget(wrong)], channel), answers_behind(calls, channel))
            self.assertEqual(last_of(*calls, forget(wrong), add(0, 49, 1)), [-4])


if __name__ == "__main__":
    unittest.main()
