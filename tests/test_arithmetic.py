"""What "What it stands for" asks: each operation rounded by itself to the nearest double, ties to even."""

import math
import random
import unittest
from fractions import Fraction

from helper import SIGN, bits, double
from readingstold.instrument import minus, over, over_count, plus, square_root, times, without_fraction

EDGES = [
    0, 1, 2, 3, 0x000FFFFFFFFFFFFE, 0x000FFFFFFFFFFFFF, 0x0010000000000000, 0x0010000000000001, 0x001FFFFFFFFFFFFF,
    0x0020000000000000, 0x3CA0000000000000, 0x3CA0000000000001, 0x3CB0000000000000, 0x3FEFFFFFFFFFFFFF,
    0x3FF0000000000000, 0x3FF0000000000001, 0x3FF8000000000000, 0x433FFFFFFFFFFFFF, 0x4340000000000000,
    0x4340000000000001, 0x1E60000000000000, 0x1E68000000000000, 0x58F0000000000000, 0x5FEFFFFFFFFFFFFF,
    0x7FE0000000000000, 0x7FEFFFFFFFFFFFFF,
]
BOTH_SIGNS = EDGES + [SIGN | edge for edge in EDGES]


def random_double(source):
    """The bits of a finite double; half of them have few bits set in the fraction, so ties come."""
    fraction = source.getrandbits(52)
    if source.getrandbits(1):
        fraction = fraction >> 44 << source.choice((0, 20, 26, 44))
    return source.getrandbits(1) << 63 | source.randrange(2047) << 52 | fraction


def neighbour(source, of_bits):
    """The bits of a finite double at most 60 binary places away."""
    exponent = (of_bits >> 52) % 2048 + source.randrange(-60, 61)
    return random_double(source) & ~(2047 << 52) | max(0, min(2046, exponent)) << 52


class Arithmetic(unittest.TestCase):
    def check(self, left, right):
        first, second = double(left), double(right)
        where = hex(left) + " " + hex(right)
        self.assertEqual(plus(left, right), bits(first + second), where)
        self.assertEqual(minus(left, right), bits(first - second), where)
        self.assertEqual(times(left, right), bits(first * second), where)
        if second != 0.0:
            self.assertEqual(over(left, right), bits(first / second), where)

    def test_edges(self):
        for left in BOTH_SIGNS:
            for right in BOTH_SIGNS:
                self.check(left, right)

    def test_at_random(self):
        source = random.Random(10)
        for _ in range(4000):
            left = random_double(source)
            self.check(left, random_double(source))
            self.check(left, neighbour(source, left))

    def test_products_about_the_least_double(self):
        source = random.Random(11)
        for _ in range(4000):
            power = source.randrange(400, 700)
            self.check(bits(source.randrange(-64, 65) * 2.0 ** -power),
                       bits(source.randrange(-64, 65) * 2.0 ** -(1075 - power)))

    def test_quotients_about_the_least_double(self):
        source = random.Random(13)
        for _ in range(4000):
            power = source.randrange(0, 700)
            self.check(bits(source.randrange(-64, 65) * 2.0 ** (power - 1074)),
                       bits(source.choice((-3.0, -2.0, 1.0, 2.0, 4.0, 6.0, 8.0, 56.0)) * 2.0 ** power))

    def test_over_counts(self):
        source = random.Random(12)
        counts = [1, 2, 3, 4, 5, 7, 10, 100, 4294967294, 4294967295]
        for count in counts + [source.randrange(1, 1 << 32) for _ in range(20)]:
            for left in BOTH_SIGNS + [random_double(source) for _ in range(50)]:
                self.assertEqual(over_count(left, count), bits(double(left) / float(count)), (hex(left), count))

    def test_ties_by_hand(self):
        self.assertEqual(plus(bits(2.0 ** 53), bits(1.0)), bits(2.0 ** 53))
        self.assertEqual(plus(bits(2.0 ** 53 + 2.0), bits(1.0)), bits(2.0 ** 53 + 4.0))
        self.assertEqual(plus(bits(2.0 ** 53), bits(1.0 + 2.0 ** -52)), bits(2.0 ** 53 + 2.0))
        self.assertEqual(times(bits(2.0 ** -600), bits(2.0 ** -475)), 0)
        self.assertEqual(times(bits(3.0 * 2.0 ** -600), bits(2.0 ** -475)), 2)
        self.assertEqual(times(bits(-(2.0 ** -600)), bits(2.0 ** -475)), SIGN)
        self.assertEqual(over_count(1, 2), 0)
        self.assertEqual(over_count(3, 2), 2)
        self.assertEqual(over_count(SIGN | 3, 2), SIGN | 2)
        self.assertEqual(over(1, bits(2.0)), 0)
        self.assertEqual(over(3, bits(2.0)), 2)
        self.assertEqual(over(SIGN | 3, bits(2.0)), SIGN | 2)
        self.assertEqual(over(SIGN | 1, bits(2.0)), SIGN)

    def test_fractions_dropped(self):
        source = random.Random(14)
        for of_bits in BOTH_SIGNS + [random_double(source) for _ in range(2000)]:
            self.assertEqual(without_fraction(of_bits), int(double(of_bits)), hex(of_bits))


class SquareRoot(unittest.TestCase):
    def check(self, of_bits):
        root = square_root(of_bits)
        self.assertEqual(root, bits(math.sqrt(double(of_bits))), hex(of_bits))
        if of_bits:
            # No other double is as near: the root lies between the middles to its neighbours.
            below = (Fraction(double(root)) + Fraction(double(root - 1))) / 2
            above = (Fraction(double(root)) + Fraction(double(root + 1))) / 2
            self.assertTrue(below ** 2 < Fraction(double(of_bits)) < above ** 2, hex(of_bits))

    def test_edges(self):
        for edge in EDGES:
            self.check(edge)

    def test_by_hand(self):
        for number, root in ((0.0, 0.0), (1.0, 1.0), (4.0, 2.0), (2.25, 1.5), (1e30, 1e15), (2.0 ** -1074, 2.0 ** -537),
                             (2.0 ** 802, 2.0 ** 401)):
            self.assertEqual(square_root(bits(number)), bits(root))
        self.assertEqual(square_root(bits(2.0)), 0x3FF6A09E667F3BCD)
        self.assertEqual(square_root(bits(3.0)), 0x3FFBB67AE8584CAA)
        self.assertEqual(square_root(bits(0.5)), 0x3FE6A09E667F3BCD)

    def test_every_exponent(self):
        source = random.Random(15)
        for exponent in range(2047):
            self.check(exponent << 52 | source.getrandbits(52))

    def test_subnormal_doubles(self):
        source = random.Random(16)
        for of_bits in list(range(1, 200)) + [source.getrandbits(source.randrange(1, 53)) for _ in range(300)]:
            self.check(of_bits)

    def test_squares_and_their_neighbours(self):
        source = random.Random(17)
        for _ in range(500):
            root = source.getrandbits(26) + 1
            square = root * root * 2.0 ** (2 * source.randrange(-537, 450))
            for of_bits in range(max(0, bits(square) - 2), bits(square) + 3):
                self.check(of_bits)

    def test_close_to_the_middle_of_two_doubles(self):
        # The middles have 54 places: their squares, cut to a double, have roots as close to them as there are.
        source = random.Random(18)
        for _ in range(1000):
            middle = 1 << 53 | source.getrandbits(53) | 1
            square = bits(float(middle * middle))
            for of_bits in (square - 1, square, square + 1):
                self.check(of_bits)


if __name__ == "__main__":
    unittest.main()
