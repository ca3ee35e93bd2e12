"""Promise 5: variance."""

import random
import unittest

from helper import ADD, BEGIN, VARIANCE, add_all, bits, state_by_floats, tail, told


class Variance(unittest.TestCase):
    def variance(self, readings):
        return tail(add_all(readings), [VARIANCE])[0]

    def test_of_no_readings(self):
        self.assertEqual(told([VARIANCE]), [0])
        self.assertEqual(told([BEGIN, VARIANCE]), [0, 0])

    def test_of_one_reading(self):
        for reading in (0.0, -0.0, 1.0, -1.0, 0.1, 5e-324, -(2.0 ** 400)):
            self.assertEqual(self.variance([reading]), 0)

    def test_of_two_readings(self):
        self.assertEqual(self.variance([1.0, 3.0]), bits(2.0))
        self.assertEqual(self.variance([-1.0, 3.0]), bits(8.0))
        self.assertEqual(self.variance([7.0, 7.0]), 0)
        self.assertEqual(self.variance([-7.0, -7.0]), 0)
        self.assertEqual(self.variance([2.0 ** 400, -(2.0 ** 400)]), bits(2.0 ** 801))

    def test_of_several_readings(self):
        self.assertEqual(self.variance([1.0, 2.0, 3.0]), bits(1.0))
        self.assertEqual(self.variance([2.0, 4.0, 6.0, 8.0]), bits(20.0 / 3.0))

    def test_the_division_is_rounded_to_even(self):
        # Of 0, k * 2^-537 and their mean, the squares are 1, 3 and 5 of the least double; half of that is half-way.
        for k, variance in ((1.5, 0), (2.5, 2), (3.25, 2)):
            far = k * 2.0 ** -537
            self.assertEqual(self.variance([0.0, far, far / 2.0]), variance)

    def test_to_the_last_bit(self):
        source = random.Random(30)
        for _ in range(300):
            scale = 2.0 ** source.randrange(-545, 390)
            readings = [source.gauss(1.0, 2.0) * scale for _ in range(source.randrange(2, 30))]
            self.assertEqual(self.variance(readings), state_by_floats(readings)[2])

    def test_a_refused_reading_is_not_among_them(self):
        self.assertEqual(told(add_all([5.0]) + [ADD, 0x7FF0000000000000, VARIANCE]), [0, -1, 0])
        self.assertEqual(told(add_all([1.0, 3.0]) + [ADD, 0x7FF8000000000000, VARIANCE]), [0, 0, -1, bits(2.0)])

    def test_asking_changes_nothing(self):
        calls = add_all([1.0, 3.0]) + [VARIANCE, VARIANCE] + add_all([5.0]) + [VARIANCE]
        self.assertEqual(told(calls), [0, 0, bits(2.0), bits(2.0), 0, bits(4.0)])


if __name__ == "__main__":
    unittest.main()
