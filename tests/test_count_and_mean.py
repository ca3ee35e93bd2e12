"""Promise 4: count and mean."""

import unittest

from helper import ADD, BEGIN, COUNT, MEAN, REFUSED_READINGS, add_all, bits, told


class CountAndMean(unittest.TestCase):
    def test_of_no_readings(self):
        self.assertEqual(told([COUNT, MEAN]), [0, 0])
        self.assertEqual(told([BEGIN, MEAN, COUNT]), [0, 0, 0])

    def test_of_one_reading(self):
        for reading in (1.0, -1.0, 0.1, 5e-324, -5e-324, 2.0 ** 400, -(2.0 ** 400)):
            self.assertEqual(told(add_all([reading]) + [COUNT, MEAN]), [0, 1, bits(reading)])

    def test_of_several_readings(self):
        calls = add_all([1.0]) + [COUNT, MEAN] + add_all([2.0]) + [COUNT, MEAN] + add_all([-6.0]) + [COUNT, MEAN]
        self.assertEqual(told(calls), [0, 1, bits(1.0), 0, 2, bits(1.5), 0, 3, bits(-1.0)])

    def test_equal_readings_count_each(self):
        self.assertEqual(told(add_all([0.5] * 40) + [COUNT, MEAN])[-2:], [40, bits(0.5)])

    def test_refused_readings_do_not_count(self):
        for reading in REFUSED_READINGS:
            self.assertEqual(told([ADD, reading, COUNT, MEAN]), [-1, 0, 0])
            calls = add_all([3.0]) + [ADD, reading] + add_all([5.0]) + [ADD, reading, COUNT, MEAN]
            self.assertEqual(told(calls), [0, -1, 0, -1, 2, bits(4.0)])

    def test_asking_changes_nothing(self):
        self.assertEqual(told([COUNT, MEAN] * 3 + add_all([2.5]) + [COUNT, MEAN] * 3),
                         [0, 0] * 3 + [0] + [1, bits(2.5)] * 3)


if __name__ == "__main__":
    unittest.main()
