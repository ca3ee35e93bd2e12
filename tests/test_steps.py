"""Promise 7: steps."""

import math
import random
import unittest
from fractions import Fraction

from helper import (ADD, BEGIN, BOUND, INFINITE, LEAST_ABOVE_ZERO, NEGATIVE_ZERO, NO_NUMBERS, POSITIVE_ZERO, SIGN,
                    STEPS, add_all, answers_by_floats, bits, double, each_told, everything_behind)
from readingstold.instrument import answers

LARGEST = 0x7FEFFFFFFFFFFFFF
BELOW_2_63 = 2.0 ** 63 - 1024.0
REFUSED = [-1]
NO_STEPS = NO_NUMBERS + [SIGN | x for x in NO_NUMBERS] + [
    POSITIVE_ZERO, NEGATIVE_ZERO, INFINITE, SIGN | INFINITE, SIGN | 1, SIGN | LARGEST, bits(-1.0), bits(-0.5),
    bits(-1e300)]


class Steps(unittest.TestCase):
    def steps(self, readings, step):
        return each_told(add_all(readings) + [STEPS, bits(step)])[-1]

    def check(self, reading, step):
        calls = add_all([reading]) + [STEPS, bits(step)]
        self.assertEqual(answers(calls), answers_by_floats(calls), (reading, step))


class Answered(Steps):
    def test_with_no_readings(self):
        for step in (1.0, 0.1, LEAST_ABOVE_ZERO, double(LARGEST)):
            self.assertEqual(each_told([STEPS, bits(step)]), [[0, 0]])
            self.assertEqual(each_told([BEGIN, STEPS, bits(step)]), [[0], [0, 0]])

    def test_two_numbers_are_given_back(self):
        self.assertEqual(answers(add_all([6.0]) + [STEPS, bits(2.0)]), [1, 0, 2, 0, 3])
        self.assertEqual(answers(add_all([-6.0]) + [STEPS, bits(2.0)]), [1, 0, 2, 0, -3])
        self.assertEqual(answers(add_all([-1.0]) + [STEPS, bits(1.0)]), [1, 0, 2, 0, -1])

    def test_ordinary_means(self):
        self.assertEqual(self.steps([1.0, 2.0, 6.0], 1.0), [0, 3])
        self.assertEqual(self.steps([1.0, 2.0, 6.0], 0.5), [0, 6])
        self.assertEqual(self.steps([20.0, 21.0], 0.25), [0, 82])
        self.assertEqual(self.steps([-20.0, -21.0], 0.25), [0, -82])
        self.assertEqual(self.steps([1e6], 1e-6), [0, 1000000000000])

    def test_the_fraction_is_dropped(self):
        for mean, step, whole in ((7.0, 2.0, 3), (-7.0, 2.0, -3), (7.9, 1.0, 7), (-7.9, 1.0, -7), (2.5, 1.0, 2),
                                  (-2.5, 1.0, -2), (3.5, 1.0, 3), (-3.5, 1.0, -3), (1.0, 0.3, 3), (-1.0, 0.3, -3)):
            self.assertEqual(self.steps([mean], step), [0, whole], (mean, step))

    def test_the_fraction_is_dropped_where_zero_is_left(self):
        for mean, step in ((0.5, 1.0), (0.999, 1.0), (1.0 - 2.0 ** -53, 1.0), (1e-300, 1.0), (1.0, 1e300), (1.0, 2.0),
                           (LEAST_ABOVE_ZERO, 2 * LEAST_ABOVE_ZERO), (LEAST_ABOVE_ZERO, 1e300), (0.0, 1.0)):
            self.assertEqual(self.steps([mean], step), [0, 0], (mean, step))
            self.assertEqual(self.steps([-mean], step), [0, 0], (-mean, step))

    def test_whole_quotients_and_their_neighbours(self):
        for whole in (1, 2, 3, 1000, 2 ** 31, 2 ** 52 - 1, 2 ** 52, 2 ** 52 + 1):
            middle = bits(float(whole))
            for mean in (double(middle - 1), double(middle), double(middle + 1)):
                self.assertEqual(self.steps([mean], 1.0), [0, math.floor(mean)], mean)
                self.assertEqual(self.steps([-mean], 1.0), [0, -math.floor(mean)], -mean)

    def test_the_quotient_is_rounded_ahead_of_the_drop(self):
        for mean, step, whole in ((0.9, 0.1, 9), (1.0, 0.1, 10), (2.0, 0.1, 20), (100.0, 0.1, 1000)):
            exact = Fraction(mean) / Fraction(step)
            self.assertTrue(whole - 1 < exact < whole)
            self.assertEqual(self.steps([mean], step), [0, whole], (mean, step))
            self.assertEqual(self.steps([-mean], step), [0, -whole], (mean, step))

    def test_quotients_that_stay_below_a_whole_number(self):
        for mean, step, whole in ((0.3, 0.1, 2), (0.6, 0.2, 2), (0.7, 0.1, 6)):
            self.assertEqual(self.steps([mean], step), [0, whole], (mean, step))
            self.assertEqual(self.steps([-mean], step), [0, -whole], (mean, step))

    def test_the_mean_is_taken_and_not_a_reading(self):
        self.assertEqual(self.steps([10.0, 0.0], 1.0), [0, 5])
        calls = add_all([4.0, 8.0]) + [BEGIN] + add_all([3.0]) + [ADD, INFINITE, STEPS, bits(1.0)]
        self.assertEqual(each_told(calls)[-1], [0, 3])

    def test_very_small_steps_and_means(self):
        tiny = LEAST_ABOVE_ZERO
        for mean, step, whole in ((1, 1, 1), (3, 2, 1), (7, 2, 3), (2, 3, 0), (1000, 7, 142), (3 << 49, 3, 1 << 49)):
            self.assertEqual(self.steps([mean * tiny], step * tiny), [0, whole])
            self.assertEqual(self.steps([-mean * tiny], step * tiny), [0, -whole])
        self.assertEqual(self.steps([1e-300], 1e-310), [0, 10000000000])
        self.assertEqual(self.steps([2.0 ** -1022], tiny), [0, 2 ** 52])
        self.assertEqual(self.steps([2.0 ** -1022], double(0x000FFFFFFFFFFFFF)), [0, 1])
        self.assertEqual(self.steps([double(0x000FFFFFFFFFFFFF)], 2.0 ** -1022), [0, 0])

    def test_very_large_steps_and_means(self):
        self.assertEqual(self.steps([BOUND], BOUND), [0, 1])
        self.assertEqual(self.steps([-BOUND], BOUND), [0, -1])
        self.assertEqual(self.steps([BOUND], BOUND / 1024.0), [0, 1024])
        self.assertEqual(self.steps([BOUND], double(LARGEST)), [0, 0])
        self.assertEqual(self.steps([-BOUND], double(LARGEST)), [0, 0])

    def test_the_ends(self):
        below = 2 ** 63 - 1024
        for scale in (1.0, 0.5, 1e3, 2.0 ** -1074, 2.0 ** -1000, 2.0 ** 300, 3.0, 7.0):
            self.assertEqual(self.steps([-(2.0 ** 63) * scale], scale), [0, -(2 ** 63)])
        for scale in (1.0, 0.5, 2.0 ** -1074, 2.0 ** -1000, 2.0 ** 300):
            self.assertEqual(self.steps([BELOW_2_63 * scale], scale), [0, below])
            self.assertEqual(self.steps([-BELOW_2_63 * scale], scale), [0, -below])
        # The exact quotient lies less than one above the answer.
        self.assertEqual(self.steps([2.0 ** 63], 1.0 + 2.0 ** -52), [0, 2 ** 63 - 2048])

    def test_at_random(self):
        source = random.Random(70)
        for _ in range(2000):
            mean = double(source.randrange(bits(BOUND) + 1) | source.getrandbits(1) << 63)
            self.check(mean, double(source.randrange(1, INFINITE)))
            exponent = (bits(abs(mean)) >> 52) - source.randrange(-3, 66)
            self.check(mean, double(max(0, min(2046, exponent)) << 52 | source.getrandbits(52) | 1))

    def test_decimal_steps_at_random(self):
        source = random.Random(71)
        for _ in range(2000):
            step = source.choice((0.1, 0.01, 0.3, 0.7, 1e-3, 1.1, 2.3))
            self.check(source.randrange(-3000, 3001) * step, step)
            self.check(source.randrange(-3000, 3001) / 10, step)

    def test_about_the_ends_at_random(self):
        source = random.Random(72)
        for _ in range(2000):
            mean = bits(source.uniform(1.0, 2.0) * 2.0 ** source.randrange(-900, 390))
            step = double(mean - (63 << 52) + source.randrange(-3, 4))
            self.check(double(mean), step)
            self.check(-double(mean), step)


class Refused(Steps):
    def check_refused(self, before, step):
        calls = before + [STEPS, step]
        self.assertEqual(each_told(calls)[-1], REFUSED, hex(step))
        self.assertEqual(answers(calls)[-2:], [1, -1], hex(step))
        self.assertEqual(everything_behind(calls), everything_behind(before), hex(step))
        later = add_all([2.5, -0.3])
        self.assertEqual(everything_behind(calls + later), everything_behind(before + later), hex(step))
        self.assertEqual(each_told(calls + [STEPS, bits(BOUND)])[-1], each_told(before + [STEPS, bits(BOUND)])[-1])

    def test_what_is_no_step(self):
        for before in ([], add_all([1.5]), add_all([-1.5]), add_all([0.1, -7.0, 3.25]), add_all([0.0])):
            for step in NO_STEPS:
                self.check_refused(before, step)

    def test_what_is_no_step_at_random(self):
        source = random.Random(73)
        for _ in range(300):
            self.check_refused(add_all([source.gauss(0.0, 5.0)]), source.randrange(INFINITE, 1 << 64))

    def test_infinite_quotients(self):
        for mean, step in ((1.0, LEAST_ABOVE_ZERO), (BOUND, 1e-300), (BOUND, LEAST_ABOVE_ZERO), (1e-5, 1e-320)):
            self.assertEqual(mean / step, math.inf)
            self.check_refused(add_all([mean]), bits(step))
            self.check_refused(add_all([-mean]), bits(step))

    def test_quotients_of_2_63_and_above(self):
        for mean in (2.0 ** 63, 2.0 ** 63 + 2048.0, 2.0 ** 64, 1e30, BOUND):
            self.check_refused(add_all([mean]), bits(1.0))
        for scale in (0.5, 3.0, 2.0 ** -1074, 2.0 ** 300):
            self.check_refused(add_all([2.0 ** 63 * scale]), bits(scale))
        self.check_refused(add_all([2.0 ** 63]), bits(1.0 - 2.0 ** -53))

    def test_quotients_below_the_lower_end(self):
        for mean in (-(2.0 ** 63) - 2048.0, -(2.0 ** 64), -1e30, -BOUND):
            self.check_refused(add_all([mean]), bits(1.0))
        # The exact quotient lies less than 1025 below -2^63 and is rounded away from it.
        self.check_refused(add_all([-(2.0 ** 63)]), bits(1.0 - 2.0 ** -53))

    def test_a_finite_quotient_beyond_the_ends(self):
        for mean, step in ((1.0, 1e-300), (1e100, 1e-100), (BOUND, 2.0 ** -600)):
            self.check_refused(add_all([mean]), bits(step))
            self.check_refused(add_all([-mean]), bits(step))

    def test_answers_change_nothing_either(self):
        before = add_all([0.1, -7.0, 3.25])
        for step in (1.0, 0.1, 1e-3, 1e300):
            self.assertEqual(everything_behind(before + [STEPS, bits(step)]), everything_behind(before))


if __name__ == "__main__":
    unittest.main()
