"""Point 3: ask, the stretch and the twelve numbers."""

import unittest

from model import EMPTY, NONE, TOP, add, ask, begin, last_of, run, summary

# Widths 10, 20, 60, 240.
SMALL = begin(10, 2, 3, 4, 4, 3, 3, 2)
# The same widths, with so much kept that nothing is dropped in these tests.
WIDE = begin(10, 2, 3, 4, 1000, 1000, 1000, 1000)
HUGE = 2 ** 64 - 1


def added(measurements):
    return [add(0, *one) for one in measurements]


class Refused(unittest.TestCase):
    def check(self, call, answer):
        self.assertEqual(run(add(0, 5, 1), call)[1:], [[answer]], call)

    def test_b_not_after_a(self):
        self.check(ask(0, 5, 5), -1)
        self.check(ask(0, 5, 4), -1)
        self.check(ask(0, 0, 0), -1)
        self.check(ask(0, TOP, TOP), -1)

    def test_ranges(self):
        for wrong in (
            ask(64, 0, 10), ask(HUGE, 0, 10), ask(0, 0, TOP + 1), ask(0, 0, HUGE),
            ask(0, TOP + 1, TOP + 2), ask(0, HUGE, 10),
        ):
            self.check(wrong, -1)

    def test_ends_of_ranges(self):
        answer = [0, 0, 60000000, 1] + summary([(5, 1, 0)])
        self.assertEqual(last_of(add(0, 5, 1), ask(0, 0, TOP)), answer)
        self.assertEqual(last_of(add(63, 5, 1), ask(63, 0, TOP)), answer)
        self.assertEqual(last_of(add(0, 5, 1), ask(0, TOP - 1, TOP)), [-2])

    def test_range_goes_ahead_of_nothing_known(self):
        self.check(ask(1, 5, 5), -1)
        self.check(ask(1, 0, TOP + 1), -1)

    def test_nothing_known(self):
        self.check(ask(1, 0, 10), -2)
        self.check(ask(0, 60000000, 60000001), -2)
        self.assertEqual(last_of(SMALL, add(0, 25, 1), ask(0, 30, 40)), [-2])
        self.assertEqual(last_of(SMALL, add(0, 25, 1), ask(0, 29, 40))[:4], [0, 20, 30, 1])

    def test_nothing_known_ahead_of_the_oldest(self):
        calls = [SMALL, add(0, 1234, 5)]
        self.assertEqual(last_of(*calls, ask(0, 0, 960)), [-2])
        self.assertEqual(last_of(*calls, ask(0, 0, 961)), [0, 960, 1200, 1] + EMPTY)

    def test_refused_leaves_all(self):
        calls = [SMALL, add(0, 25, 1)]
        answer = last_of(*calls, ask(0, 0, 100))
        for wrong in (ask(0, 5, 5), ask(0, 30, 40), ask(1, 0, 10)):
            self.assertEqual(last_of(*calls, wrong, ask(0, 0, 100)), answer)


class Covered(unittest.TestCase):
    """From when, till when, from how many cells, and of which measurements."""

    # One every 5, each with a value of its own, till 995.
    MANY = [(time, time * time - 9, time % 256) for time in range(0, 1000, 5)]

    def check(self, first, a, b, start, end, cells, measurements=MANY):
        inside = [one for one in measurements if start <= one[0] < end]
        self.assertEqual(
            last_of(first, *added(measurements), ask(0, a, b)),
            [0, start, end, cells] + summary(inside), (a, b))

    def test_within_one_cell(self):
        self.check(WIDE, 12, 17, 10, 20, 1)
        self.check(WIDE, 10, 11, 10, 20, 1)
        self.check(WIDE, 19, 20, 10, 20, 1)
        self.check(WIDE, 10, 20, 10, 20, 1)

    def test_one_cell_of_each_level(self):
        self.check(WIDE, 20, 40, 20, 40, 1)
        self.check(WIDE, 60, 120, 60, 120, 1)
        self.check(WIDE, 240, 480, 240, 480, 1)

    def test_several_cells_of_one_level(self):
        self.check(WIDE, 10, 30, 10, 30, 2)
        self.check(WIDE, 20, 60, 20, 60, 2)
        self.check(WIDE, 60, 240, 60, 240, 3)
        self.check(WIDE, 0, 720, 0, 720, 3)

    def test_cells_of_several_levels(self):
        # 10-20; 20-40, 40-60; 60-120, 120-180, 180-240; 240-480, 480-720; 720-780; 780-800; 800-810.
        self.check(WIDE, 10, 810, 10, 810, 11)
        self.check(WIDE, 230, 490, 230, 490, 3)
        self.check(WIDE, 0, 730, 0, 730, 4)

    def test_wide_cell_that_would_end_too_late(self):
        # 0-60, 60-120, 120-180; 180-200, 200-220; 220-230; 230-240 holds 239.
        self.check(WIDE, 0, 239, 0, 240, 7)
        self.check(WIDE, 0, 240, 0, 240, 1)

    def test_begins_within_a_cell(self):
        self.check(WIDE, 19, 40, 10, 40, 2)
        # 0-10, 10-20; 20-40, 40-60; 60-120, 120-180, 180-240.
        self.check(WIDE, 1, 240, 0, 240, 7)
        self.check(WIDE, 241, 480, 240, 480, 7)

    def test_ends_within_a_cell(self):
        self.check(WIDE, 20, 41, 20, 50, 2)
        self.check(WIDE, 240, 481, 240, 490, 2)

    def test_begins_and_ends_within_cells(self):
        self.check(WIDE, 15, 25, 10, 30, 2)

    def test_behind_the_last_cell(self):
        self.check(WIDE, 980, TOP, 980, 1000, 1)
        self.check(WIDE, 990, 1001, 990, 1000, 1)
        self.check(WIDE, 0, TOP, 0, 1000, 6)

    def test_level_0_ends_the_stretch_not_a_wider_level(self):
        # The last is in 20-30, which isn't all of the cells 20-40 and 0-60.
        self.check(WIDE, 0, 60, 0, 30, 2, self.MANY[:6])
        self.check(WIDE, 20, 40, 20, 30, 1, self.MANY[:6])

    def test_ahead_of_the_oldest_kept_cell(self):
        # At 995 the newest cells are 99, 49, 16, 4, the oldest begin at 960, 940, 840, 720.
        # 720-960; 960-980, 980-1000.
        self.check(SMALL, 0, TOP, 720, 1000, 3)

    def test_behind_dropped_cells(self):
        self.check(SMALL, 730, 735, 720, 960, 1)
        self.check(SMALL, 720, 840, 720, 960, 1)
        self.check(SMALL, 839, 1000, 720, 1000, 1 + 2)
        self.check(SMALL, 840, 1000, 840, 1000, 2 + 2)
        self.check(SMALL, 850, 1000, 840, 1000, 2 + 2)
        self.check(SMALL, 945, 950, 940, 960, 1)
        # 940-960, as 950-960 is dropped; 960-970, 970-980.
        self.check(SMALL, 955, 975, 940, 980, 3)
        self.check(SMALL, 965, 975, 960, 980, 2)

    def test_first_of_a_late_measurement(self):
        one = [(10 ** 15 + 3, 4, 1)]
        calls = [SMALL, *added(one)]
        answer = last_of(*calls, ask(0, 0, TOP))
        self.assertEqual(answer[1], (10 ** 15 // 240 - 1) * 240)
        self.assertEqual(answer[2], 10 ** 15 + 10)
        self.assertEqual(answer[4:], summary(one))


class Told(unittest.TestCase):
    def twelve(self, *measurements):
        return last_of(WIDE, *added(measurements), ask(0, 0, 1000))[4:]

    def valued(self, *values):
        return self.twelve(*[(5, value, 0) for value in values])

    def test_all_twelve(self):
        self.assertEqual(
            self.twelve((3, 7, 1), (13, NONE, 2), (27, -2, 4), (61, 9, 4)),
            [4, 1, -2, 9, 0, 14, 5, 3, 7, 61, 9, 7])

    def test_all_none(self):
        self.assertEqual(
            self.twelve((3, NONE, 1), (13, NONE, 16)),
            [2, 2, NONE, NONE, 0, 0, NONE, 0, NONE, 0, NONE, 17])

    def test_some_none(self):
        self.assertEqual(
            self.twelve((3, NONE, 1), (13, 6, 0), (14, 8, 0), (900, NONE, 2)),
            [4, 2, 6, 8, 0, 14, 7, 13, 6, 14, 8, 3])

    def test_none_at_all(self):
        self.assertEqual(
            last_of(WIDE, add(0, 5, 1, 1), add(0, 995, 2, 2), ask(0, 100, 900)),
            [0, 100, 900, 8] + [0, 0, NONE, NONE, 0, 0, NONE, 0, NONE, 0, NONE, 0])

    def test_least_and_greatest(self):
        self.assertEqual(self.valued(4, -3, 8, 0)[2:4], [-3, 8])
        self.assertEqual(self.valued(-5, -3)[2:4], [-5, -3])
        self.assertEqual(self.valued(5, 3)[2:4], [3, 5])
        self.assertEqual(self.valued(TOP, -TOP)[2:4], [-TOP, TOP])

    def test_least_and_greatest_over_cells(self):
        self.assertEqual(self.twelve((5, -1, 0), (105, -7, 0), (505, -3, 0))[2:4], [-7, -1])
        self.assertEqual(self.twelve((5, 1, 0), (105, 7, 0), (505, 3, 0))[2:4], [1, 7])

    def test_sum_as_two(self):
        self.assertEqual(self.valued(TOP - 1)[4:6], [0, TOP - 1])
        self.assertEqual(self.valued(TOP)[4:6], [1, 0])
        self.assertEqual(self.valued(TOP, TOP, TOP, 5)[4:6], [3, 5])
        self.assertEqual(self.valued(-1)[4:6], [-1, TOP - 1])
        self.assertEqual(self.valued(-TOP)[4:6], [-1, 0])
        self.assertEqual(self.valued(-TOP, -1)[4:6], [-2, TOP - 1])
        self.assertEqual(self.valued(-TOP, -TOP, 1)[4:6], [-2, 1])
        self.assertEqual(self.valued(3, -3)[4:6], [0, 0])

    def test_mean(self):
        for values, mean in (
            ((1, 2), 2), ((-1, -2), -2), ((0, 1), 1), ((0, -1), -1), ((1, 4), 3), ((-1, -4), -3),
            ((0, 0, 1), 0), ((0, 1, 1), 1), ((0, 0, -1), 0), ((0, -1, -1), -1),
            ((1, -1), 0), ((7,), 7), ((-7,), -7), ((0, 0, 0, 1), 0), ((0, 0, 0, -1), 0),
            ((0, 0, 0, 2), 1), ((0, 0, 0, -2), -1), ((0, 0, 0, 3), 1), ((0, 0, 0, -3), -1),
            ((TOP, TOP, TOP), TOP), ((-TOP, -TOP, -TOP), -TOP), ((TOP, TOP - 1), TOP),
            ((-TOP, 1 - TOP), -TOP), ((TOP, TOP - 1, TOP - 1), TOP - 1),
        ):
            self.assertEqual(self.valued(*values)[6], mean, values)

    def test_mean_leaves_out_none(self):
        self.assertEqual(self.valued(NONE, 6, NONE, 7, NONE)[6], 7)

    def test_first_and_last(self):
        self.assertEqual(self.twelve((0, 4, 0))[7:11], [0, 4, 0, 4])
        self.assertEqual(self.twelve((3, 4, 0), (4, 9, 0), (8, 2, 0))[7:11], [3, 4, 8, 2])
        self.assertEqual(self.twelve((3, 4, 0), (405, 9, 0), (808, 2, 0))[7:11], [3, 4, 808, 2])
        self.assertEqual(self.twelve((3, 4, 0), (3, 9, 0), (3, 2, 0))[7:11], [3, 4, 3, 2])
        self.assertEqual(self.twelve((3, NONE, 0), (4, 9, 0), (8, NONE, 0))[7:11], [4, 9, 4, 9])

    def test_marks_together(self):
        self.assertEqual(self.twelve((1, 1, 1), (2, NONE, 2), (300, 1, 2), (600, 1, 128))[11], 131)
        self.assertEqual(self.twelve((1, 1, 255), (2, 1, 255))[11], 255)
        self.assertEqual(self.twelve((1, 1, 0), (2, 1, 0))[11], 0)

    def test_only_of_the_stretch(self):
        calls = [WIDE, add(0, 5, 100, 1), add(0, 15, 2, 2), add(0, 25, -100, 4)]
        self.assertEqual(last_of(*calls, ask(0, 10, 20)), [0, 10, 20, 1] + summary([(15, 2, 2)]))

    def test_asking_changes_nothing(self):
        calls = [WIDE, *added([(5, 1, 1), (65, 2, 2), (305, 3, 4)])]
        questions = [ask(0, 0, 1000), ask(0, 0, 10), ask(0, 60, 120), ask(0, 0, 1000), ask(0, 0, 10)]
        answers = run(*calls, *questions)[4:]
        self.assertEqual(answers[0], answers[3])
        self.assertEqual(answers[1], answers[4])
        self.assertEqual(answers[1], [0, 0, 10, 1] + summary([(5, 1, 1)]))


if __name__ == "__main__":
    unittest.main()
