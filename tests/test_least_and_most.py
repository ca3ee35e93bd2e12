"""Promises 3 and 4: least and most."""

import random
import unittest

from helper import (ADD, BEGIN, BOUND, LEAST, LEAST_ABOVE_ZERO, MOST, NEGATIVE_ZERO, NO_NUMBERS, POSITIVE_ZERO,
                    REFUSED_READINGS, SIGN, add_all, bits, double, tail, told)


class LeastAndMost(unittest.TestCase):
    def check(self, readings, least, most):
        self.assertEqual(tail(add_all(readings), [LEAST, MOST]), [bits(least), bits(most)], readings)

    def test_of_no_readings(self):
        self.assertEqual(told([LEAST, MOST]), [0, 0])
        self.assertEqual(told([BEGIN, MOST, LEAST]), [0, 0, 0])

    def test_of_one_reading(self):
        # A first reading stands for both on either side of 0, where nothing has been yet.
        for reading in (1.0, -1.0, 0.1, -1e100, LEAST_ABOVE_ZERO, -LEAST_ABOVE_ZERO, BOUND, -BOUND, 0.0, -0.0):
            self.check([reading], reading, reading)

    def test_of_several_readings(self):
        self.check([1.0, 2.0, 3.0], 1.0, 3.0)
        self.check([3.0, 2.0, 1.0], 1.0, 3.0)
        self.check([2.0, 3.0, 1.0, 2.5], 1.0, 3.0)
        self.check([4.0, 4.0, 4.0], 4.0, 4.0)
        self.check([1.0, 1.0 + 2.0 ** -52, 1.0 - 2.0 ** -53], 1.0 - 2.0 ** -53, 1.0 + 2.0 ** -52)

    def test_of_negative_readings(self):
        self.check([-1.0, -2.0, -3.0], -3.0, -1.0)
        self.check([-3.0, -2.0, -1.0], -3.0, -1.0)
        self.check([-1.0, -1.0 - 2.0 ** -52, -1.0 + 2.0 ** -53], -1.0 - 2.0 ** -52, -1.0 + 2.0 ** -53)

    def test_of_either_sign(self):
        self.check([1.0, -2.0], -2.0, 1.0)
        self.check([-2.0, 1.0], -2.0, 1.0)
        self.check([-0.5, 7.0, -1e75, 1e-3], -1e75, 7.0)

    def test_after_each_reading(self):
        calls = []
        for reading in (5.0, 7.0, 6.0, -1.0, 0.0, 8.0):
            calls += [ADD, bits(reading), LEAST, MOST]
        self.assertEqual([double(x) for x in told(calls)],
                         [0.0, 5.0, 5.0, 0.0, 5.0, 7.0, 0.0, 5.0, 7.0, 0.0, -1.0, 7.0, 0.0, -1.0, 7.0, 0.0, -1.0, 8.0])

    def test_zeros_do_not_take_each_others_place(self):
        self.check([0.0, -0.0], 0.0, 0.0)
        self.check([-0.0, 0.0], -0.0, -0.0)
        self.check([0.0, -0.0, 0.0, -0.0], 0.0, 0.0)
        self.check([-0.0, 0.0, -0.0, 0.0], -0.0, -0.0)
        for first, second in ((NEGATIVE_ZERO, POSITIVE_ZERO), (POSITIVE_ZERO, NEGATIVE_ZERO)):
            self.assertEqual(told([ADD, first, ADD, second, LEAST, MOST]), [0, 0, first, first])

    def test_zeros_as_one_end(self):
        for first, second in ((0.0, -0.0), (-0.0, 0.0)):
            self.check([1.0, first, second], first, 1.0)
            self.check([-1.0, first, second], -1.0, first)
            self.check([first, 1.0, second, -1.0, second], -1.0, 1.0)

    def test_subnormal_readings(self):
        tiny = LEAST_ABOVE_ZERO
        self.check([0.0, tiny], 0.0, tiny)
        self.check([-0.0, -tiny], -tiny, -0.0)
        self.check([tiny, -tiny, 2 * tiny, -2 * tiny], -2 * tiny, 2 * tiny)
        largest = double(0x000FFFFFFFFFFFFF)
        normal = double(0x0010000000000000)
        self.check([largest, normal], largest, normal)
        self.check([-largest, -normal], -normal, -largest)

    def test_the_bounds(self):
        self.check([BOUND, -BOUND], -BOUND, BOUND)
        self.check([-BOUND, 0.0, BOUND], -BOUND, BOUND)
        self.check([double(bits(BOUND) - 1), BOUND], double(bits(BOUND) - 1), BOUND)
        self.check([-double(bits(BOUND) - 1), -BOUND], -BOUND, -double(bits(BOUND) - 1))

    def test_refused_readings_are_not_among_them(self):
        for reading in REFUSED_READINGS + NO_NUMBERS + [SIGN | x for x in NO_NUMBERS]:
            self.assertEqual(told([ADD, reading, LEAST, MOST]), [-1, 0, 0])
            # The first reading taken is the first, whatever was refused ahead of it.
            self.assertEqual(tail([ADD, reading] + add_all([5.0]), [LEAST, MOST]), [bits(5.0)] * 2)
            self.assertEqual(tail([ADD, reading] + add_all([-5.0]), [LEAST, MOST]), [bits(-5.0)] * 2)
            calls = add_all([-1.0, 2.0]) + [ADD, reading]
            self.assertEqual(tail(calls, [LEAST, MOST]), [bits(-1.0), bits(2.0)])
            self.assertEqual(tail(calls + add_all([3.0, -4.0]), [LEAST, MOST]), [bits(-4.0), bits(3.0)])

    def test_behind_a_new_begin(self):
        before = add_all([-9.0, 9.0]) + [BEGIN]
        self.assertEqual(tail(before, [LEAST, MOST]), [0, 0])
        self.assertEqual(tail(before + add_all([3.0]), [LEAST, MOST]), [bits(3.0)] * 2)
        self.assertEqual(tail(before + add_all([-3.0]), [LEAST, MOST]), [bits(-3.0)] * 2)
        self.assertEqual(tail(before + add_all([-0.0]), [LEAST, MOST]), [NEGATIVE_ZERO] * 2)
        self.assertEqual(tail(before + add_all([4.0, 6.0, 5.0]), [LEAST, MOST]), [bits(4.0), bits(6.0)])

    def test_asking_changes_nothing(self):
        calls = add_all([2.0]) + [LEAST, MOST, LEAST, MOST] + add_all([1.0, 3.0]) + [MOST, LEAST]
        self.assertEqual(told(calls), [0] + [bits(2.0)] * 4 + [0, 0, bits(3.0), bits(1.0)])

    def test_at_random(self):
        source = random.Random(40)
        for _ in range(300):
            readings = [double(source.randrange(1, bits(BOUND) + 1) | source.getrandbits(1) << 63)
                        for _ in range(source.randrange(1, 30))]
            self.check(readings, min(readings), max(readings))


if __name__ == "__main__":
    unittest.main()
