"""Promise 6: side."""

import random
import unittest

from helper import (ADD, BEGIN, BOUND, INFINITE, LEAST_ABOVE_ZERO, MEAN, NEGATIVE_ZERO, NO_NUMBERS, POSITIVE_ZERO, SIDE,
                    SIGN, add_all, bits, double, everything_behind, tail, told)
from readingstold.instrument import Instrument

LARGEST = 0x7FEFFFFFFFFFFFFF


class Side(unittest.TestCase):
    def side(self, readings, x):
        """Of x, which is told by its bits."""
        return told(add_all(readings) + [SIDE, x])[-1]

    def test_with_no_readings(self):
        for x, side in ((0.0, 0), (-0.0, 0), (1.0, 1), (-1.0, -1), (LEAST_ABOVE_ZERO, 1), (-LEAST_ABOVE_ZERO, -1)):
            self.assertEqual(told([SIDE, bits(x)]), [side])
            self.assertEqual(told([BEGIN, SIDE, bits(x)]), [0, side])
        self.assertEqual(told([SIDE, INFINITE, SIDE, SIGN | INFINITE, SIDE, NO_NUMBERS[0]]), [1, -1, 2])

    def test_with_one_reading(self):
        self.assertEqual(told(add_all([2.0]) + [SIDE, bits(1.0), SIDE, bits(2.0), SIDE, bits(3.0)]), [0, -1, 0, 1])
        self.assertEqual(told(add_all([-2.0]) + [SIDE, bits(-3.0), SIDE, bits(-2.0), SIDE, bits(-1.0)]), [0, -1, 0, 1])

    def test_with_several_readings(self):
        readings = [1.0, 2.0, 6.0]
        for x, side in ((2.0, -1), (3.0, 0), (6.0, 1), (-3.0, -1), (0.0, -1), (-0.0, -1), (1e300, 1), (-1e300, -1)):
            self.assertEqual(self.side(readings, bits(x)), side, x)
        readings = [-1.0, -2.0, -6.0]
        for x, side in ((-2.0, 1), (-3.0, 0), (-6.0, -1), (3.0, 1), (0.0, 1), (-0.0, 1), (1e300, 1), (-1e300, -1)):
            self.assertEqual(self.side(readings, bits(x)), side, x)

    def test_a_minus_one_is_answered_alone_and_is_no_refusal(self):
        calls = add_all([1.0, 3.0])
        self.assertEqual(everything_behind(calls + [SIDE, bits(-5.0)]), everything_behind(calls))
        self.assertEqual(told(calls + [SIDE, bits(-5.0), SIDE, bits(5.0)]), [0, 0, -1, 1])

    def test_both_zeros_by_a_mean_of_positive_zero(self):
        for readings in ([], [0.0], [-0.0], [1.0, -1.0], [-1.0, 1.0], [-0.0, 0.0]):
            self.assertEqual(tail(add_all(readings), [MEAN]), [POSITIVE_ZERO])
            self.assertEqual(self.side(readings, POSITIVE_ZERO), 0)
            self.assertEqual(self.side(readings, NEGATIVE_ZERO), 0)
            self.assertEqual(self.side(readings, 1), 1)
            self.assertEqual(self.side(readings, SIGN | 1), -1)

    def test_both_zeros_by_a_mean_of_negative_zero(self):
        # No readings make such a mean, as +0 and -0 make +0: it is set ahead.
        instrument = Instrument()
        instrument.add(NEGATIVE_ZERO)
        instrument.mean = NEGATIVE_ZERO
        self.assertEqual(instrument.side(POSITIVE_ZERO), 0)
        self.assertEqual(instrument.side(NEGATIVE_ZERO), 0)
        self.assertEqual(instrument.side(1), 1)
        self.assertEqual(instrument.side(SIGN | 1), -1)

    def test_infinities_lie_beyond_all(self):
        for readings in ([], [1.0], [-1.0], [BOUND], [-BOUND], [0.1, 0.2]):
            self.assertEqual(self.side(readings, INFINITE), 1)
            self.assertEqual(self.side(readings, SIGN | INFINITE), -1)
            self.assertEqual(self.side(readings, LARGEST), 1)
            self.assertEqual(self.side(readings, SIGN | LARGEST), -1)

    def test_what_is_no_number(self):
        source = random.Random(60)
        payloads = [source.randrange(1, 1 << 52) for _ in range(50)] + [1 << k for k in range(52)]
        for readings in ([], [1.0], [-1.0], [3.0, -7.5]):
            for x in NO_NUMBERS + [INFINITE | payload for payload in payloads]:
                self.assertEqual(self.side(readings, x), 2, hex(x))
                self.assertEqual(self.side(readings, SIGN | x), 2, hex(x))

    def test_the_neighbours_of_the_mean(self):
        source = random.Random(61)
        several = [[0.1], [-0.1], [1.0], [-1.0], [2.0, 6.0], [-2.0, -6.0], [BOUND], [-BOUND], [1 / 3, 2 / 7, 9.9],
                   [double(0x000FFFFFFFFFFFFF)], [double(0x0010000000000000)], [-double(0x0010000000000000)],
                   [2 * LEAST_ABOVE_ZERO], [LEAST_ABOVE_ZERO], [-LEAST_ABOVE_ZERO]]
        several += [[source.gauss(0.0, 1e3) for _ in range(7)] for _ in range(50)]
        for readings in several:
            mean = tail(add_all(readings), [MEAN])[0]
            above, below = (mean + 1, mean - 1) if mean < SIGN else (mean - 1, mean + 1)
            self.assertEqual(self.side(readings, mean), 0, readings)
            self.assertEqual(self.side(readings, above), 1, readings)
            self.assertEqual(self.side(readings, below), -1, readings)
            self.assertEqual(self.side(readings, mean ^ SIGN), 1 if mean >= SIGN else -1, readings)

    def test_numbers_at_random(self):
        source = random.Random(62)
        for _ in range(500):
            reading = double(source.randrange(bits(BOUND) + 1) | source.getrandbits(1) << 63)
            x = double(source.randrange(INFINITE) | source.getrandbits(1) << 63)
            self.assertEqual(self.side([reading], bits(x)), (x > reading) - (x < reading), (x, reading))

    def test_by_the_mean_and_not_by_a_reading(self):
        self.assertEqual(told(add_all([10.0]) + [SIDE, bits(7.0)] + add_all([0.0]) + [SIDE, bits(7.0)]), [0, -1, 0, 1])

    def test_behind_a_refused_reading_and_a_new_begin(self):
        self.assertEqual(told(add_all([4.0]) + [ADD, INFINITE, SIDE, bits(4.0)]), [0, -1, 0])
        self.assertEqual(told(add_all([4.0]) + [BEGIN, SIDE, bits(4.0), SIDE, NEGATIVE_ZERO]), [0, 0, 1, 0])

    def test_asking_changes_nothing(self):
        calls = add_all([0.1, -7.0, 3.25])
        for x in (bits(1.0), bits(-1.0), INFINITE, SIGN | INFINITE, NO_NUMBERS[0], POSITIVE_ZERO, NEGATIVE_ZERO):
            self.assertEqual(everything_behind(calls + [SIDE, x]), everything_behind(calls))
            self.assertEqual(everything_behind([SIDE, x]), everything_behind([BEGIN]))


if __name__ == "__main__":
    unittest.main()
