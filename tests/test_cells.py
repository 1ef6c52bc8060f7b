"""Point 4: cells, of each level those that are kept and have measurements."""

import unittest

from model import NONE, TOP, add, ask, begin, cells, forget, known, last_of, run, summary

# Widths 10, 20, 60, 240.
SMALL = begin(10, 2, 3, 4, 4, 3, 3, 2)
# The same widths, with so much kept that nothing is dropped in these tests.
WIDE = begin(10, 2, 3, 4, 1000, 1000, 1000, 1000)
HUGE = 2 ** 64 - 1

A, B, C, D, E, F = MANY = (
    (5, 1, 1), (15, -2, 2), (16, NONE, 4), (105, -3, 8), (300, NONE, 16), (999, 7, 32))

# Of each level the cells of MANY, by their numbers.
LEVELS = (
    {0: [A], 1: [B, C], 10: [D], 30: [E], 99: [F]},
    {0: [A, B, C], 5: [D], 15: [E], 49: [F]},
    {0: [A, B, C], 1: [D], 5: [E], 16: [F]},
    {0: [A, B, C, D], 1: [E], 4: [F]},
)


def added(measurements, channel=0):
    return [add(channel, *one) for one in measurements]


def told(found):
    """The answer that tells these cells."""
    answer = [len(found)]
    for number, measurements in found.items():
        answer += [number] + summary(measurements)
    return answer


class Ordinary(unittest.TestCase):
    def check(self, call, found):
        self.assertEqual(last_of(WIDE, *added(MANY), call), told(found), call)

    def some(self, level, numbers):
        return {number: LEVELS[level][number] for number in numbers}

    def test_written_out(self):
        calls = [WIDE, add(3, 15, -2, 2), add(3, 16, NONE, 4), add(3, 18, 5, 0), add(3, 45, 6, 1)]
        self.assertEqual(last_of(*calls, cells(3, 0, 0, 9)), [
            2,
            1, 3, 1, -2, 5, 0, 3, 2, 15, -2, 18, 5, 6,
            4, 1, 0, 6, 6, 0, 6, 6, 45, 6, 45, 6, 1,
        ])

    def test_each_level(self):
        for level in range(4):
            self.check(cells(0, level, 0, 1000), LEVELS[level])

    def test_from_a_number_on(self):
        for level in range(4):
            for number in range(102):
                numbers = [n for n in LEVELS[level] if n >= number]
                self.check(cells(0, level, number, 1000), self.some(level, numbers))

    def test_ahead_at_and_behind(self):
        self.check(cells(0, 0, 9, 1), {10: [D]})
        self.check(cells(0, 0, 10, 1), {10: [D]})
        self.check(cells(0, 0, 11, 1), {30: [E]})
        self.check(cells(0, 0, 99, 1), {99: [F]})
        self.check(cells(0, 0, 100, 1), {})

    def test_most(self):
        for level in range(4):
            numbers = list(LEVELS[level])
            for most in range(7):
                self.check(cells(0, level, 0, most), self.some(level, numbers[:most]))
                self.check(cells(0, level, 1, most), self.some(level, [n for n in numbers if n >= 1][:most]))

    def test_most_0(self):
        self.assertEqual(run(WIDE, *added(MANY), cells(0, 0, 0, 0))[-1], [0])
        self.assertEqual(run(WIDE, *added(MANY), cells(0, 3, HUGE, 0))[-1], [0])

    def test_greatest_most(self):
        for level in range(4):
            self.check(cells(0, level, 0, HUGE), LEVELS[level])
            self.check(cells(0, level, 0, 2 ** 63), LEVELS[level])
        self.check(cells(0, 0, 30, HUGE), {30: [E], 99: [F]})

    def test_greatest_number(self):
        for level in range(4):
            self.check(cells(0, level, HUGE, HUGE), {})
            self.check(cells(0, level, 2 ** 63, 1), {})

    def test_greatest_cell_there_can_be(self):
        calls = [begin(1, 2, 2, 2, 2, 2, 2, 2), add(0, TOP, 4, 1)]
        for level in range(4):
            number = TOP // 2 ** level
            answer = told({number: [(TOP, 4, 1)]})
            self.assertEqual(last_of(*calls, cells(0, level, 0, HUGE)), answer)
            self.assertEqual(last_of(*calls, cells(0, level, number, HUGE)), answer)
            self.assertEqual(last_of(*calls, cells(0, level, number + 1, HUGE)), [0])

    def test_what_is_set_at_first(self):
        widths = (60000000, 3600000000, 86400000000, 2592000000000)
        one = (5 * widths[3] + 7, 4, 1)
        for level in range(4):
            self.assertEqual(
                last_of(add(0, *one), cells(0, level, 0, 9)), told({one[0] // widths[level]: [one]}))

    def test_many_cells(self):
        every = [(10 * number, number - 400, number % 256) for number in range(900)]
        answer = last_of(WIDE, *added(every), cells(0, 0, 0, HUGE))
        self.assertEqual(answer, told({number: [one] for number, one in enumerate(every)}))
        self.assertEqual(len(answer), 1 + 13 * 900)


class Summaries(unittest.TestCase):
    def check(self, measurements, twelve):
        for level in range(4):
            self.assertEqual(
                last_of(WIDE, *added(measurements), cells(0, level, 0, 9)), [1, 0] + twelve)

    def test_all_none(self):
        self.check([(3, NONE, 1), (4, NONE, 16)], [2, 2, NONE, NONE, 0, 0, NONE, 0, NONE, 0, NONE, 17])

    def test_some_none(self):
        self.check(
            [(3, NONE, 1), (4, 6, 0), (5, 9, 0), (6, NONE, 2)], [4, 2, 6, 9, 0, 15, 8, 4, 6, 5, 9, 3])

    def test_below_0(self):
        self.check([(3, -6, 0), (4, -9, 0)], [2, 0, -9, -6, -1, TOP - 15, -8, 3, -6, 4, -9, 0])
        self.check([(0, -TOP, 0), (0, -TOP, 0)], [2, 0, -TOP, -TOP, -2, 0, -TOP, 0, -TOP, 0, -TOP, 0])

    def test_greatest(self):
        self.check([(9, TOP, 255), (9, TOP, 255)], [2, 0, TOP, TOP, 2, 0, TOP, 9, TOP, 9, TOP, 255])

    def test_a_cell_has_its_own_alone(self):
        calls = [WIDE, *added([(9, 5, 1), (10, 6, 2), (19, 7, 4), (20, 8, 8)])]
        self.assertEqual(last_of(*calls, cells(0, 0, 1, 1)), told({1: [(10, 6, 2), (19, 7, 4)]}))


class Dropped(unittest.TestCase):
    """Kept are 4, 3, 3, 2 cells."""

    def check(self, measurements, levels):
        for level in range(4):
            found = {
                number: [one for one in measurements if one[0] // (10, 20, 60, 240)[level] == number]
                for number in levels[level]}
            calls = [SMALL, *added(measurements)]
            self.assertEqual(last_of(*calls, cells(0, level, 0, HUGE)), told(found), level)
            oldest = {number: found[number] for number in levels[level][:1]}
            self.assertEqual(last_of(*calls, cells(0, level, 0, 1)), told(oldest), level)

    def test_none_yet(self):
        self.check([(time, time, 0) for time in range(0, 40, 5)], ([0, 1, 2, 3], [0, 1], [0], [0]))

    def test_one_of_level_0(self):
        self.check([(time, time, 0) for time in range(0, 41, 5)], ([1, 2, 3, 4], [0, 1, 2], [0], [0]))

    def test_of_each_level(self):
        every = [(time, 3 - time, time % 256) for time in range(0, 1000, 5)]
        self.check(every, ([96, 97, 98, 99], [47, 48, 49], [14, 15, 16], [3, 4]))

    def test_at_the_edge_of_level_3(self):
        self.check([(5, 1, 1), (479, 2, 2)], ([47], [23], [7], [0, 1]))
        self.check([(5, 1, 1), (480, 2, 2)], ([48], [24], [8], [2]))

    def test_cells_without_measurements_count_as_kept(self):
        self.check([(5, 1, 1), (39, 2, 2)], ([0, 3], [0, 1], [0], [0]))
        self.check([(5, 1, 1), (49, 2, 2)], ([4], [0, 2], [0], [0]))
        self.check([(5, 1, 1), (179, 2, 2)], ([17], [8], [0, 2], [0]))
        self.check([(5, 1, 1), (180, 2, 2)], ([18], [9], [3], [0]))

    def test_all_by_one_late_measurement(self):
        every = [(time, 1, 1) for time in range(0, 240, 5)] + [(10 ** 15, 2, 2)]
        self.check(every, ([10 ** 14], [5 * 10 ** 13], [10 ** 15 // 60], [10 ** 15 // 240]))

    def test_one_kept(self):
        calls = [begin(10, 2, 3, 4, 1, 2, 2, 2), *added([(5, 1, 0), (9, 2, 0)])]
        self.assertEqual(last_of(*calls, cells(0, 0, 0, 9)), told({0: [(5, 1, 0), (9, 2, 0)]}))
        self.assertEqual(last_of(*calls, add(0, 10, 3), cells(0, 0, 0, 9)), told({1: [(10, 3, 0)]}))

    def test_refused_drops_nothing(self):
        calls = [SMALL, *added([(5, 1, 1), (39, 2, 2)])]
        answer = told({0: [(5, 1, 1)], 3: [(39, 2, 2)]})
        for wrong in (add(0, 38, 9), add(0, 900, TOP + 1), add(0, 900, 1, 256), add(1, 900, 1)):
            self.assertEqual(last_of(*calls, wrong, cells(0, 0, 0, 9)), answer)


class WithoutMeasurements(unittest.TestCase):
    def test_none_at_all(self):
        for channel in (0, 63):
            for level in range(4):
                self.assertEqual(run(cells(channel, level, 0, HUGE)), [[0]])

    def test_others_have_some(self):
        self.assertEqual(last_of(WIDE, *added(MANY, 1), cells(0, 0, 0, 9)), [0])
        self.assertEqual(last_of(WIDE, *added(MANY, 1), cells(2, 0, 0, 9)), [0])

    def test_behind_a_begin(self):
        for level in range(4):
            self.assertEqual(last_of(WIDE, *added(MANY), WIDE, cells(0, level, 0, 9)), [0])

    def test_behind_a_refused_begin(self):
        calls = [WIDE, *added(MANY), begin(10, 2, 3, 4, 5, 3, 3, 2)]
        self.assertEqual(last_of(*calls, cells(0, 0, 0, 9)), told(LEVELS[0]))

    def test_behind_a_refused_add(self):
        self.assertEqual(run(add(0, 5, 1, 256), cells(0, 0, 0, 9)), [[-1], [0]])


class Ranges(unittest.TestCase):
    def check(self, call, answer):
        self.assertEqual(last_of(WIDE, *added(MANY, 0), *added(MANY, 63), call), answer, call)
        self.assertEqual(run(call)[0] == [-1], answer == [-1], call)

    def test_channel(self):
        self.check(cells(0, 0, 0, 9), told(LEVELS[0]))
        self.check(cells(63, 0, 0, 9), told(LEVELS[0]))
        for wrong in (64, 65, 2 ** 32, HUGE):
            self.check(cells(wrong, 0, 0, 9), [-1])

    def test_level(self):
        self.check(cells(0, 0, 0, 9), told(LEVELS[0]))
        self.check(cells(0, 3, 0, 9), told(LEVELS[3]))
        for wrong in (4, 5, 2 ** 32, HUGE):
            self.check(cells(0, wrong, 0, 9), [-1])
            self.check(cells(0, wrong, 0, 0), [-1])
            self.check(cells(0, wrong, HUGE, HUGE), [-1])

    def test_both(self):
        self.check(cells(64, 4, 0, 9), [-1])

    def test_channel_without_measurements(self):
        self.check(cells(1, 3, 0, 9), [0])
        self.check(cells(1, 4, 0, 9), [-1])


class ChangesNothing(unittest.TestCase):
    def test_all_is_as_it_was(self):
        questions = [ask(0, 0, TOP), known(0)] + [cells(0, level, 0, HUGE) for level in range(4)]
        for first in (SMALL, WIDE):
            calls = [first, *added(MANY)]
            before = run(*calls, *questions)
            for call in (cells(0, 0, 50, 1), cells(0, 3, 0, 0), cells(0, 4, 0, 9), cells(1, 0, 0, 9)):
                after = run(*calls, call, *questions)
                self.assertEqual(after[len(calls) + 1:], before[len(calls):], call)

    def test_a_later_measurement_is_taken_in(self):
        calls = [WIDE, add(0, 5, 1, 1), cells(0, 0, 0, 9), add(0, 6, 2, 2), cells(0, 0, 0, 9)]
        self.assertEqual(
            run(*calls)[2:], [told({0: [(5, 1, 1)]}), [0], told({0: [(5, 1, 1), (6, 2, 2)]})])

    def test_channels_apart(self):
        calls = [WIDE, add(0, 5, 1, 1), add(1, 6, 2, 2), add(0, 7, 3, 4), forget(2)]
        self.assertEqual(last_of(*calls, cells(0, 0, 0, 9)), told({0: [(5, 1, 1), (7, 3, 4)]}))
        self.assertEqual(last_of(*calls, cells(1, 0, 0, 9)), told({0: [(6, 2, 2)]}))


if __name__ == "__main__":
    unittest.main()
