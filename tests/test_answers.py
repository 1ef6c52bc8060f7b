"""The interface: the list that is handed in and the list that is given back."""

import contextlib
import io
import time
import unittest

from model import NONE, TOP, add, ask, begin, cells, forget, known, split
from trendcells.station import answers

SMALL = [1, 10, 2, 3, 4, 4, 3, 3, 2]

# All six calls, with refusals in between.
MIXED = (
    [5, 0] + [2, 0, 7, 9, 1] + SMALL + [5, 0]
    + [2, 0, 25, -7, 6] + [2, 1, 45, 3, 1] + [2, 0, 24, 1, 1] + [2, 0, 31, NONE, 8]
    + [4, 0, 0, 2, 9] + [3, 0, 0, 100] + [5, 1] + [4, 0, 4, 0, 9] + [6, 64]
    + [6, 0] + [3, 0, 0, 100] + [5, 0] + [4, 0, 0, 0, 9] + [2, 0, 5, 4, 2] + [4, 0, 3, 0, 1]
    + [1, 10, 2, 3, 4, 5, 3, 3, 2] + [4, 1, 1, 3, 9] + [4, 1, 1, 2, 9]
)
MIXED_ANSWERS = [
    1, -2,
    1, 0,
    1, 0,
    1, -2,
    1, 0,
    1, 0,
    1, -4,
    1, 0,
    27, 2,
    2, 1, 0, -7, -7, -1, TOP - 7, -7, 25, -7, 25, -7, 6,
    3, 1, 1, NONE, NONE, 0, 0, NONE, 0, NONE, 0, NONE, 8,
    16, 0, 0, 40, 2, 2, 1, -7, -7, -1, TOP - 7, -7, 25, -7, 25, -7, 14,
    10, 0, 45, 10, 1, 0, 1, 0, 1, 0, 1,
    1, -1,
    1, -1,
    1, 0,
    1, -2,
    1, -2,
    1, 0,
    1, 0,
    14, 1, 0, 1, 0, 4, 4, 0, 4, 4, 5, 4, 5, 4, 2,
    1, -1,
    1, 0,
    14, 1, 2, 1, 0, 3, 3, 0, 3, 3, 45, 3, 45, 3, 1,
]


class Given(unittest.TestCase):
    def test_one_call(self):
        self.assertEqual(answers([3, 0, 0, 10]), [1, -2])
        self.assertEqual(answers([2, 0, 5, 1, 0]), [1, 0])
        self.assertEqual(answers(SMALL), [1, 0])
        self.assertEqual(answers([1, 0, 0, 0, 0, 0, 0, 0, 0]), [1, -1])
        self.assertEqual(answers([4, 0, 0, 0, 10]), [1, 0])
        self.assertEqual(answers([4, 0, 4, 0, 10]), [1, -1])
        self.assertEqual(answers([5, 0]), [1, -2])
        self.assertEqual(answers([5, 64]), [1, -1])
        self.assertEqual(answers([6, 0]), [1, 0])
        self.assertEqual(answers([6, 64]), [1, -1])

    def test_several_calls(self):
        calls = SMALL + [2, 0, 25, -7, 6] + [2, 0, 24, 1, 1] + [3, 0, 21, 22] + [2, 64, 0, 0, 0] + [3, 9, 0, 1]
        self.assertEqual(answers(calls), [
            1, 0,
            1, 0,
            1, -4,
            16, 0, 20, 30, 1, 1, 0, -7, -7, -1, TOP - 7, -7, 25, -7, 25, -7, 6,
            1, -1,
            1, -2,
        ])

    def test_numbers_below_0_behind_the_first(self):
        self.assertEqual(answers([2, 0, 5, NONE, 1, 3, 0, 0, 1]), [
            1, 0,
            16, 0, 0, 60000000, 1, 1, 1, NONE, NONE, 0, 0, NONE, 0, NONE, 0, NONE, 1,
        ])

    def test_all_six_mixed(self):
        self.assertEqual(answers(MIXED), MIXED_ANSWERS)

    def test_a_list_of_whole_numbers(self):
        found = answers(MIXED)
        self.assertIs(type(found), list)
        self.assertEqual({type(number) for number in found}, {int})

    def test_what_is_handed_in_stays(self):
        calls = list(MIXED)
        answers(calls)
        self.assertEqual(calls, MIXED)

    def test_a_second_time_as_the_first(self):
        first = answers(MIXED)
        first.clear()
        self.assertEqual(answers(MIXED), MIXED_ANSWERS)
        self.assertEqual(answers([3, 0, 0, 100]), [1, -2])
        self.assertEqual(answers([5, 1]), [1, -2])
        self.assertEqual(answers([4, 1, 0, 0, 9]), [1, 0])

    def test_settings_are_not_kept(self):
        answers(SMALL + [2, 0, 5, 1, 0])
        self.assertEqual(answers([2, 0, 4, 1, 0, 3, 0, 0, 1])[2:6], [16, 0, 0, 60000000])

    def test_prints_nothing(self):
        out = io.StringIO()
        with contextlib.redirect_stdout(out), contextlib.redirect_stderr(out):
            answers(MIXED)
        self.assertEqual(out.getvalue(), "")


class Large(unittest.TestCase):
    """2000 calls are answered soon, whatever stretches they ask for."""

    def check(self, calls, seconds):
        begun = time.monotonic()
        found = answers([number for call in calls for number in call])
        self.assertLess(time.monotonic() - begun, seconds)
        return found

    def test_many_empty_cells(self):
        calls = [begin(1, 64, 64, 64, 4096, 4096, 4096, 4096), add(0, 1, 1), add(0, 4000 * 2 ** 18 - 2, 1)]
        calls += [ask(0, 1, 4000 * 2 ** 18 - 1)] * 1997
        found = self.check(calls, 20)
        # Only level 3 reaches back to the beginning; behind its cells are 63 of each other level.
        self.assertEqual(found[6:11], [16, 0, 0, 4000 * 2 ** 18 - 1, 3999 + 3 * 63])

    def test_many_cells_with_measurements(self):
        calls = [begin(1, 2, 2, 2, 4096, 4096, 4096, 4096)]
        calls += [add(0, 8 * number, number) for number in range(1000)]
        calls += [ask(0, 0, TOP)] * 999
        found = self.check(calls, 60)
        self.assertEqual(found[-12], 1000)

    def test_many_cells_told(self):
        calls = [begin(1, 2, 2, 2, 4096, 4096, 4096, 4096)]
        calls += [add(0, 8 * number, number) for number in range(1000)]
        # Level 0 has dropped some; of the others 76 times 13001 numbers are fewer than 1000000.
        calls += [cells(0, 1 + place % 3, 0, 2 ** 64 - 1) for place in range(76)]
        calls += [cells(0, 0, 0, 0), cells(0, 0, 7992, 9), known(0)] * 307
        calls += [forget(0), known(0)]
        self.assertEqual(len(calls), 2000)
        found = split(self.check(calls, 60))
        self.assertEqual([len(answer) for answer in found[1001:1077]], [13001] * 76)
        self.assertEqual(found[1077:1079], [[0], [1, 7992] + [1, 0, 999, 999, 0, 999, 999, 7992, 999, 7992, 999, 0]])
        self.assertEqual(found[-2:], [[0], [-2]])

    def test_one_cell_a_time_dropped(self):
        calls = [begin(1, 2, 2, 2, 1, 2, 2, 2)] + [add(0, number, number) for number in range(1998)]
        found = split(self.check(calls + [known(0)], 60))
        self.assertEqual(found[-1], [0, 1997, 1997, 1, 1994, 2, 1992, 2, 1984, 2])


if __name__ == "__main__":
    unittest.main()
