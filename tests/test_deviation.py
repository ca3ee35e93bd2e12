"""Promise 5: deviation."""

import math
import random
import unittest

from helper import (ADD, BEGIN, BOUND, DEVIATION, LEAST_ABOVE_ZERO, REFUSED_READINGS, VARIANCE, add_all, bits, double,
                    everything_behind, state_by_floats, tail, told)


class Deviation(unittest.TestCase):
    def deviation(self, readings):
        return tail(add_all(readings), [DEVIATION])[0]

    def check(self, readings):
        """Told as Python's floats have it, the variance rounded before its root is taken."""
        variance = state_by_floats(readings)[2]
        self.assertEqual(tail(add_all(readings), [VARIANCE, DEVIATION]), [variance, bits(math.sqrt(double(variance)))],
                         readings)

    def test_of_no_readings(self):
        self.assertEqual(told([DEVIATION]), [0])
        self.assertEqual(told([BEGIN, DEVIATION]), [0, 0])

    def test_of_one_reading(self):
        for reading in (0.0, -0.0, 1.0, -1.0, 0.1, LEAST_ABOVE_ZERO, -LEAST_ABOVE_ZERO, BOUND, -BOUND):
            self.assertEqual(self.deviation([reading]), 0)

    def test_of_two_readings(self):
        # Of 0 and x the variance is half of x squared.
        self.assertEqual(self.deviation([0.0, 2.0]), 0x3FF6A09E667F3BCD)
        self.assertEqual(self.deviation([1.0, -1.0]), 0x3FF6A09E667F3BCD)
        self.assertEqual(self.deviation([0.0, 1.0]), 0x3FE6A09E667F3BCD)
        self.assertEqual(self.deviation([-1.0, -4.0]), bits(math.sqrt(4.5)))

    def test_of_equal_readings(self):
        for reading in (0.0, -0.0, 7.0, -7.0, 0.1, LEAST_ABOVE_ZERO, BOUND):
            self.assertEqual(self.deviation([reading, reading]), 0)
            self.assertEqual(self.deviation([reading] * 9), 0)

    def test_of_variances_that_are_squares(self):
        self.assertEqual(self.deviation([1.0, 2.0, 3.0]), bits(1.0))
        self.assertEqual(self.deviation([2.0, 4.0, 6.0]), bits(2.0))
        self.assertEqual(self.deviation([-5.0, 0.0, 5.0]), bits(5.0))
        self.assertEqual(self.deviation([0.0, 1.5, 3.0]), bits(1.5))
        self.assertEqual(self.deviation([0.0, 12345.0, 24690.0]), bits(12345.0))

    def test_of_variances_that_are_not(self):
        self.assertEqual(self.deviation([1.0, 2.0, 6.0]), bits(math.sqrt(7.0)))
        self.assertEqual(self.deviation([2.0, 4.0, 6.0, 8.0]), bits(math.sqrt(20.0 / 3.0)))
        self.check([20.1, 20.3, 19.8, 20.05, 20.2, 19.95, 20.0])
        self.check([0.1, 0.2, 0.4, -0.3])

    def test_of_odd_and_even_exponents(self):
        for power in range(-540, 398):
            scale = 2.0 ** power
            self.check([0.0, scale])
            self.check([1.25 * scale, -1.7 * scale, 0.3 * scale])

    def test_of_subnormal_variances(self):
        # Of 0, 2^-536 and their mean the variance is the least double above 0; the root is no subnormal any more.
        far = 2.0 ** -536
        self.assertEqual(tail(add_all([0.0, far, far / 2.0]), [VARIANCE, DEVIATION]), [1, bits(2.0 ** -537)])
        self.assertEqual(tail(add_all([0.0, far]), [VARIANCE, DEVIATION]), [2, bits(math.sqrt(2.0) * 2.0 ** -537)])
        for k in range(1, 200):
            self.check([0.0, k * 2.0 ** -537])
            self.check([0.0, k * 2.0 ** -530, 2.0 ** -530])
            self.check([0.0, k * 2.0 ** -520])

    def test_of_variances_that_vanish(self):
        for readings in ([0.0, LEAST_ABOVE_ZERO], [0.0, 2.0 ** -537], [1e-200, -1e-200]):
            self.assertEqual(tail(add_all(readings), [VARIANCE, DEVIATION]), [0, 0])

    def test_of_very_large_variances(self):
        self.assertEqual(self.deviation([BOUND, -BOUND]), bits(math.sqrt(2.0) * BOUND))
        self.assertEqual(self.deviation([BOUND, 0.0, -BOUND]), bits(BOUND))
        self.check([BOUND, -BOUND] * 40)
        self.check([BOUND, double(bits(BOUND) - 1), -1.0, 1e100])

    def test_at_random(self):
        source = random.Random(50)
        for _ in range(500):
            scale = 2.0 ** source.randrange(-545, 390)
            self.check([source.gauss(1.0, 2.0) * scale for _ in range(source.randrange(2, 30))])

    def test_a_refused_reading_is_not_among_them(self):
        for reading in REFUSED_READINGS:
            self.assertEqual(told(add_all([5.0]) + [ADD, reading, DEVIATION]), [0, -1, 0])
            self.assertEqual(told(add_all([-1.0, 0.0, 1.0]) + [ADD, reading, DEVIATION]), [0, 0, 0, -1, bits(1.0)])

    def test_behind_a_new_begin(self):
        before = add_all([1.0, 9.0]) + [BEGIN]
        self.assertEqual(tail(before, [DEVIATION]), [0])
        self.assertEqual(tail(before + add_all([4.0]), [DEVIATION]), [0])
        self.assertEqual(tail(before + add_all([4.0, 6.0, 8.0]), [DEVIATION]), [bits(2.0)])

    def test_asking_changes_nothing(self):
        calls = add_all([1.0, 2.0, 6.0])
        self.assertEqual(everything_behind(calls + [DEVIATION, DEVIATION]), everything_behind(calls))
        calls = add_all([1.0, 2.0]) + [DEVIATION] + add_all([3.0]) + [DEVIATION, DEVIATION]
        self.assertEqual(told(calls), [0, 0, bits(math.sqrt(0.5)), 0, bits(1.0), bits(1.0)])


if __name__ == "__main__":
    unittest.main()
