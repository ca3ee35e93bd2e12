"""What "What it stands for" asks: each operation rounded by itself to the nearest double, ties to even."""

import random
import unittest

from helper import SIGN, bits, double
from readingstold.instrument import minus, over_count, plus, times

EDGES = [
    0, 1, 2, 3, 0x000FFFFFFFFFFFFE, 0x000FFFFFFFFFFFFF, 0x0010000000000000, 0x0010000000000001, 0x001FFFFFFFFFFFFF,
    0x0020000000000000, 0x3CA0000000000000, 0x3CA0000000000001, 0x3CB0000000000000, 0x3FEFFFFFFFFFFFFF,
    0x3FF0000000000000, 0x3FF0000000000001, 0x3FF8000000000000, 0x433FFFFFFFFFFFFF, 0x4340000000000000,
    0x4340000000000001, 0x1E60000000000000, 0x1E68000000000000, 0x58F0000000000000, 0x5FEFFFFFFFFFFFFF,
    0x7FE0000000000000, 0x7FEFFFFFFFFFFFFF,
]
BOTH_SIGNS = EDGES + [SIGN | edge for edge in EDGES]


def random_double(source):
    """The bits of a finite double; half of them have few bits set in the fraction, so ties come."""
    fraction = source.getrandbits(52)
    if source.getrandbits(1):
        fraction = fraction >> 44 << source.choice((0, 20, 26, 44))
    return source.getrandbits(1) << 63 | source.randrange(2047) << 52 | fraction


def neighbour(source, of_bits):
    """The bits of a finite double at most 60 binary places away."""
    exponent = (of_bits >> 52) % 2048 + source.randrange(-60, 61)
    return random_double(source) & ~(2047 << 52) | max(0, min(2046, exponent)) << 52


class Arithmetic(unittest.TestCase):
    def check(self, left, right):
        first, second = double(left), double(right)
        where = hex(left) + " " + hex(right)
        self.assertEqual(plus(left, right), bits(first + second), where)
        self.assertEqual(minus(left, right), bits(first - second), where)
        self.assertEqual(times(left, right), bits(first * second), where)

    def test_edges(self):
        for left in BOTH_SIGNS:
            for right in BOTH_SIGNS:
                self.check(left, right)

    def test_at_random(self):
        source = random.Random(10)
        for _ in range(4000):
            left = random_double(source)
            self.check(left, random_double(source))
            self.check(left, neighbour(source, left))

    def test_products_about_the_least_double(self):
        source = random.Random(11)
        for _ in range(4000):
            power = source.randrange(400, 700)
            self.check(bits(source.randrange(-64, 65) * 2.0 ** -power),
                       bits(source.randrange(-64, 65) * 2.0 ** -(1075 - power)))

    def test_over_counts(self):
        source = random.Random(12)
        counts = [1, 2, 3, 4, 5, 7, 10, 100, 4294967294, 4294967295]
        for count in counts + [source.randrange(1, 1 << 32) for _ in range(20)]:
            for left in BOTH_SIGNS + [random_double(source) for _ in range(50)]:
                self.assertEqual(over_count(left, count), bits(double(left) / float(count)), (hex(left), count))

    def test_ties_by_hand(self):
        self.assertEqual(plus(bits(2.0 ** 53), bits(1.0)), bits(2.0 ** 53))
        self.assertEqual(plus(bits(2.0 ** 53 + 2.0), bits(1.0)), bits(2.0 ** 53 + 4.0))
        self.assertEqual(plus(bits(2.0 ** 53), bits(1.0 + 2.0 ** -52)), bits(2.0 ** 53 + 2.0))
        self.assertEqual(times(bits(2.0 ** -600), bits(2.0 ** -475)), 0)
        self.assertEqual(times(bits(3.0 * 2.0 ** -600), bits(2.0 ** -475)), 2)
        self.assertEqual(times(bits(-(2.0 ** -600)), bits(2.0 ** -475)), SIGN)
        self.assertEqual(over_count(1, 2), 0)
        self.assertEqual(over_count(3, 2), 2)
        self.assertEqual(over_count(SIGN | 3, 2), SIGN | 2)


if __name__ == "__main__":
    unittest.main()
