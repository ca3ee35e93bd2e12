"""Promise 1: begin."""

import unittest

from helper import (ADD, BEGIN, COUNT, DEVIATION, LEAST, MEAN, MOST, SIDE, STEPS, VARIANCE, add_all, bits, each_told,
                    everything_behind, state_behind, told)

NOTHING_YET = [0, 0, 0, 0, 0, 0]


class Begin(unittest.TestCase):
    def test_answers_zero(self):
        self.assertEqual(told([BEGIN]), [0])
        self.assertEqual(told([BEGIN, BEGIN]), [0, 0])
        self.assertEqual(told(add_all([1.5, 2.5]) + [BEGIN])[-1], 0)

    def test_there_are_no_readings_behind_it(self):
        self.assertEqual(everything_behind([BEGIN]), NOTHING_YET)

    def test_earlier_readings_are_forgotten(self):
        for readings in ([7.25], [-1.5, 2.0, 1e100], [-0.0], [5e-324, -5e-324]):
            self.assertEqual(everything_behind(add_all(readings) + [BEGIN]), NOTHING_YET)

    def test_readings_behind_it_are_told_as_if_alone(self):
        later = add_all([0.1, 0.7, -3.0])
        for earlier in ([7.25], [-1.5, 2.0, 1e100], [1e-300] * 5):
            self.assertEqual(everything_behind(add_all(earlier) + [BEGIN] + later), everything_behind(later))

    def test_squares_are_forgotten_too(self):
        calls = add_all([1.0, 100.0]) + [BEGIN] + add_all([3.0, 3.0])
        self.assertEqual(state_behind(calls), [2, bits(3.0), 0])

    def test_squares_start_at_the_zero_above(self):
        # Both products are -0 here: the new mean is the reading itself. +0 and -0 make +0.
        ulp = 2.0 ** -52
        readings = add_all([-1.0 - ulp, -1.0 - 2 * ulp])
        self.assertEqual(state_behind(readings), [2, bits(-1.0 - 2 * ulp), 0])

    def test_a_list_need_not_start_with_it(self):
        for calls in ([COUNT], [MEAN], [VARIANCE], [DEVIATION], [LEAST], [MOST], [SIDE, bits(-1.0)], [STEPS, bits(0.5)],
                      [ADD, bits(4.0), MEAN, LEAST, MOST, SIDE, bits(4.0), STEPS, bits(0.5)],
                      add_all([0.1, 0.2, 0.4]) + [MEAN, VARIANCE, DEVIATION, LEAST, MOST]):
            self.assertEqual(each_told(calls), each_told([BEGIN] + calls)[1:])
        self.assertEqual(told([COUNT, MEAN, VARIANCE, DEVIATION, LEAST, MOST]), NOTHING_YET)
        self.assertEqual(each_told([SIDE, 0, STEPS, bits(0.5)]), [[0], [0, 0]])


if __name__ == "__main__":
    unittest.main()
