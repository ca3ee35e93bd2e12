"""Promise 2: add, with the mean and the squares to the last bit."""

import random
import unittest

from helper import (ADD, BEGIN, BOUND, COUNT, INFINITE, LEAST_ABOVE_ZERO, MEAN, NEGATIVE_ZERO, NO_NUMBERS,
                    POSITIVE_ZERO, SIGN, VARIANCE, add_all, bits, double, everything_behind, state_behind,
                    state_by_floats, told)
from readingstold.instrument import Instrument

BOUND_BITS = 0x58F0000000000000

TOO_LARGE = [BOUND_BITS + 1, BOUND_BITS + 2, bits(2.0 ** 401), bits(1e200), 0x7FEFFFFFFFFFFFFF]


class Taken(unittest.TestCase):
    def check(self, readings):
        """Every beginning of the readings is told as by Python's floats; 24 readings at most make 97 calls."""
        calls = [BEGIN]
        expected = [0]
        for end, reading in enumerate(readings, start=1):
            calls += [ADD, bits(reading), COUNT, MEAN, VARIANCE]
            expected += [0] + state_by_floats(readings[:end])
        self.assertEqual(told(calls), expected)

    def test_answers_zero(self):
        self.assertEqual(told(add_all([1.0, -2.0, 0.0, -0.0, LEAST_ABOVE_ZERO])), [0] * 5)

    def test_by_hand(self):
        calls = add_all([1.0, 2.0, 6.0])
        self.assertEqual(state_behind(calls), [3, 0x4008000000000000, 0x401C000000000000])
        calls = add_all([0.1, 0.2])
        self.assertEqual(state_behind(calls), [2, 0x3FC3333333333334, 0x3F747AE147AE147A])

    def test_ordinary_readings(self):
        self.check([1.0, 2.0, 4.0, 8.0])
        self.check([20.1, 20.3, 19.8, 20.05, 20.2, 19.95, 20.0])
        self.check([0.1] * 20)
        self.check([1 / 3, 2 / 3, 1 / 7, 5 / 9, 1e-3, 12345.678])

    def test_either_sign(self):
        self.check([-1.0, -2.5, -4.75])
        self.check([1.5, -1.5, 2.25, -2.25, -0.1, 0.3])

    def test_zeros(self):
        for readings in ([0.0], [-0.0], [0.0, -0.0], [-0.0, 0.0], [-0.0, -0.0, -0.0], [1.0, -1.0, -0.0], [-1.0, 1.0]):
            self.check(readings)
        self.assertEqual(state_behind([ADD, NEGATIVE_ZERO]), [1, POSITIVE_ZERO, POSITIVE_ZERO])
        self.assertEqual(state_behind([ADD, NEGATIVE_ZERO, ADD, NEGATIVE_ZERO]), [2, POSITIVE_ZERO, POSITIVE_ZERO])

    def test_subnormal_readings(self):
        least = LEAST_ABOVE_ZERO
        self.check([least])
        self.check([-least, least, 3 * least])
        self.check([double(0x000FFFFFFFFFFFFF), double(0x0010000000000000), double(0x0010000000000001)])
        self.check([double(0x001FFFFFFFFFFFFF), -double(0x000FFFFFFFFFFFFF), double(0x0000000000000123)])

    def test_small_readings_whose_squares_are_subnormal(self):
        for power in range(520, 545):
            self.check([1.75 * 2.0 ** -power, -1.3 * 2.0 ** -power, 3.1 * 2.0 ** -power])

    def test_large_readings(self):
        self.check([BOUND, -BOUND, BOUND, BOUND])
        self.check([-BOUND] * 5)
        self.check([2.0 ** 399 * 1.9, -1.0, double(BOUND_BITS - 1), 1e100, -double(BOUND_BITS - 1)])

    def test_sums_that_cancel(self):
        self.check([1e16, 1.0, -1e16])
        self.check([1e9 + 0.1, 1e9 + 0.2, 1e9 + 0.3, 1e9])
        self.check([1.0, 1.0 + 2.0 ** -52, 1.0 - 2.0 ** -53])
        self.check([5.0, -5.0, 5.0, -5.0, 5.0])

    def test_ties_of_the_difference(self):
        # x less 2^53 lies half-way between two doubles.
        for odd in (1.0, 3.0, 5.0, 7.0):
            self.check([2.0 ** 53, -odd])
            self.check([-(2.0 ** 53), odd])
        # 2^53 + 1 goes to 2^53, 2^53 + 3 goes to 2^53 + 4.
        self.assertEqual(state_behind(add_all([2.0 ** 53, -1.0]))[1], bits(2.0 ** 52))
        self.assertEqual(state_behind(add_all([2.0 ** 53, -3.0]))[1], bits(2.0 ** 52 - 2.0))

    def test_ties_of_the_quotient(self):
        # Half of an odd subnormal lies half-way between two doubles.
        for odd, half in ((1, 0), (3, 2), (5, 2), (7, 4), (9, 4)):
            self.assertEqual(state_behind([ADD, 0, ADD, odd])[1], half)
            self.assertEqual(state_behind([ADD, 0, ADD, SIGN | odd])[1], SIGN | half if half else 0)

    def test_ties_of_the_product(self):
        # Of 0 and x the squares are x times half of x: with x = odd * 2^-537, odd^2 halves of the least double.
        for odd, squares in ((1, 0), (3, 4), (5, 12), (7, 24), (9, 40), (11, 60)):
            self.assertEqual(state_behind(add_all([0.0, odd * 2.0 ** -537]))[2], squares)

    def test_ties_of_the_squares(self):
        # Of a, -a and 0 the mean is 0 and the squares are 2 * a^2; behind them, 2 adds 3, which is half-way.
        for a, squares in ((2.0 ** 26, 2.0 ** 53 + 4.0), (2.0 ** 26 + 1.0, 2.0 ** 53 + 2.0 ** 28 + 4.0)):
            self.assertEqual(state_behind(add_all([a, -a, 0.0, 2.0]))[2], bits(squares / 3.0))
            self.check([a, -a, 0.0, 2.0])

    def test_the_quotient_is_rounded_before_the_sum(self):
        self.check([1.0, 2.0 ** -53 * 3.0, 2.0 ** -52])
        self.check([3.0, 10.0, 3.0 + 2.0 ** -51, 1e-17, 1.0])

    def test_bits_at_random(self):
        source = random.Random(20)
        for _ in range(400):
            self.check([double(source.getrandbits(63) % (BOUND_BITS + 1) | source.getrandbits(1) << 63)
                        for _ in range(8)])

    def test_like_sizes_at_random(self):
        source = random.Random(21)
        for _ in range(400):
            scale = 2.0 ** source.randrange(-1074, 390)
            self.check([source.uniform(-3.0, 5.0) * scale for _ in range(16)])

    def test_small_whole_numbers_at_random(self):
        source = random.Random(22)
        for _ in range(400):
            unit = 2.0 ** source.choice((-1074, -537, -536, -530, 0, 51, 52))
            self.check([source.randrange(-40, 41) * unit for _ in range(12)])

    def test_close_readings_at_random(self):
        source = random.Random(23)
        for _ in range(200):
            middle = bits(source.uniform(1.0, 1e6))
            self.check([double(middle + source.randrange(-4, 5)) for _ in range(12)])

    def test_as_many_as_a_list_holds(self):
        source = random.Random(24)
        readings = [source.uniform(-1e3, 1e3) for _ in range(97)]
        self.assertEqual(state_behind(add_all(readings)), state_by_floats(readings))


class Refused(unittest.TestCase):
    def check_refused(self, reading):
        for before in ([], add_all([1.5]), add_all([0.1, -7.0, 3.25])):
            calls = before + [ADD, reading]
            self.assertEqual(told(calls)[-1], -1, hex(reading))
            self.assertEqual(everything_behind(calls), everything_behind(before), hex(reading))
            later = add_all([2.5, -0.3])
            self.assertEqual(everything_behind(calls + later), everything_behind(before + later), hex(reading))

    def test_what_is_no_number(self):
        for reading in NO_NUMBERS:
            self.check_refused(reading)
            self.check_refused(SIGN | reading)

    def test_infinities(self):
        self.check_refused(INFINITE)
        self.check_refused(SIGN | INFINITE)

    def test_what_lies_beyond_the_bound(self):
        for reading in TOO_LARGE:
            self.check_refused(reading)
            self.check_refused(SIGN | reading)

    def test_the_bound_itself_is_taken(self):
        self.assertEqual(bits(BOUND), BOUND_BITS)
        for reading in (BOUND_BITS, BOUND_BITS - 1, SIGN | BOUND_BITS, SIGN | (BOUND_BITS - 1)):
            self.assertEqual(told([ADD, reading, COUNT, MEAN]), [0, 1, reading])

    def test_bits_at_random(self):
        source = random.Random(25)
        for _ in range(200):
            self.check_refused(source.randrange(BOUND_BITS + 1, SIGN) | source.getrandbits(1) << 63)


class TooMany(unittest.TestCase):
    """4294967295 readings cannot be made by calls: the count is set ahead."""

    def instrument_behind(self, count):
        instrument = Instrument()
        instrument.add(bits(1.0))
        instrument.add(bits(4.0))
        instrument.count = count
        return instrument

    def test_the_last_one_is_taken(self):
        instrument = self.instrument_behind(4294967294)
        mean, squares = double(instrument.mean), double(instrument.squares)
        self.assertEqual(instrument.add(bits(7.0)), 0)
        distance = 7.0 - mean
        mean = mean + distance / 4294967295.0
        squares = squares + distance * (7.0 - mean)
        self.assertEqual(instrument.count, 4294967295)
        self.assertEqual(instrument.mean, bits(mean))
        self.assertEqual(instrument.variance(), bits(squares / 4294967294.0))

    def test_one_more_is_refused(self):
        instrument = self.instrument_behind(4294967295)
        before = dict(vars(instrument))
        for reading in (bits(7.0), bits(-7.0), POSITIVE_ZERO, NEGATIVE_ZERO, INFINITE):
            self.assertEqual(instrument.add(reading), -1)
            self.assertEqual(vars(instrument), before)

    def test_begin_makes_room(self):
        instrument = self.instrument_behind(4294967295)
        self.assertEqual(instrument.begin(), 0)
        self.assertEqual(instrument.add(bits(7.0)), 0)
        self.assertEqual((instrument.count, instrument.mean), (1, bits(7.0)))


if __name__ == "__main__":
    unittest.main()
