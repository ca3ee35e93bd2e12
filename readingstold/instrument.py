"""Readings of an instrument, as they come.

A double is its 64 bits, a whole number. Its value is held exactly, as a whole
number of units of 2^-1074, the least double above 0: every finite double is
such a whole number, so each operation is exact until its one rounding.
"""

SIGN = 0x8000000000000000
INFINITY = 0x7FF0000000000000
LARGEST_READING = 0x58F0000000000000  # 2^400
MOST_READINGS = 4294967295
STEPS_BOUND = 0x43E0000000000000  # 2^63
UNIT_EXPONENT = 1074

REFUSED = -1

LESS = -1
SAME = 0
GREATER = 1
NO_NUMBER = 2

BEGIN = 0
ADD = 1
COUNT = 2
MEAN = 3
VARIANCE = 4
DEVIATION = 5
LEAST = 6
MOST = 7
SIDE = 8

# How many numbers each call takes up in the list, its own number with it.
WIDTHS = (1, 2, 1, 1, 1, 1, 1, 1, 2, 2)


def magnitude(double):
    """The bits without the sign; of two numbers the farther from 0 has the greater."""
    return double & (SIGN - 1)


def rank(double):
    """A whole number that orders doubles as their values do, infinities too; both zeros have the same."""
    return -magnitude(double) if double & SIGN else magnitude(double)


def size(double):
    """How many units a finite double lies from 0."""
    exponent = magnitude(double) >> 52
    fraction = double & 0xFFFFFFFFFFFFF
    if exponent == 0:
        return fraction
    return (fraction + 0x10000000000000) << (exponent - 1)


def units(double):
    """The value of a finite double in units; the sign of a zero is lost."""
    return -size(double) if double & SIGN else size(double)


def nearest(numerator, denominator):
    """The double nearest to numerator / denominator units; numerator is 0 or more, denominator more than 0."""
    whole = numerator // denominator
    dropped = max(whole.bit_length() - 53, 0)
    step = denominator << dropped
    kept = numerator // step
    twice_rest = 2 * (numerator - kept * step)
    if twice_rest > step or (twice_rest == step and kept % 2 == 1):
        kept += 1
    # The leading bit of kept adds one to the exponent's field, and so does a
    # carry out of the rounding; below the least normal double there is neither.
    return min((dropped << 52) + kept, INFINITY)


def plus(left, right):
    """The sum of two finite doubles."""
    total = units(left) + units(right)
    if total == 0:
        # The sum is -0 where both are -0; every other sum of 0 is +0.
        return left & right & SIGN
    sign = SIGN if total < 0 else 0
    return sign | nearest(abs(total), 1)


def minus(left, right):
    """The first finite double less the second."""
    return plus(left, right ^ SIGN)


def times(left, right):
    """The product of two finite doubles."""
    sign = (left ^ right) & SIGN
    return sign | nearest(size(left) * size(right), 1 << UNIT_EXPONENT)


def over_count(double, count):
    """A finite double over a count of readings, which is a double itself: it is below 2^53."""
    return (double & SIGN) | nearest(size(double), count)


def over(left, right):
    """The first finite double over the second, which is not 0."""
    sign = (left ^ right) & SIGN
    return sign | nearest(size(left) << UNIT_EXPONENT, size(right))


def whole_root(square):
    """The greatest whole number whose square is not above the one given, which is more than 0."""
    # Newton's steps come down to the root from above, so the first is not below it.
    root = 1 << ((square.bit_length() + 1) // 2)
    closer = (root + square // root) // 2
    while closer < root:
        root = closer
        closer = (root + square // root) // 2
    return root


def square_root(double):
    """The square root of a finite double that is +0 or more."""
    if double == 0:
        return 0
    square = size(double) << UNIT_EXPONENT
    root = whole_root(square)
    # Half a unit stands for whatever the whole root leaves: a root that is
    # not whole is then never taken for one half-way between two doubles.
    rest = 0 if root * root == square else 1
    return nearest(2 * root + rest, 2)


def without_fraction(double):
    """The value of a finite double as a whole number, its fraction dropped."""
    whole = size(double) >> UNIT_EXPONENT
    return -whole if double & SIGN else whole


class Instrument:
    """What is kept of the readings; but for the count, all of it is doubles."""

    def __init__(self):
        self.begin()

    def begin(self):
        self.count = 0
        self.mean = 0
        self.squares = 0
        self.least = 0
        self.most = 0
        return 0

    def refuses(self, reading):
        # Infinities and what is no number have greater magnitudes than any number.
        return magnitude(reading) > LARGEST_READING or self.count >= MOST_READINGS

    def add(self, reading):
        if self.refuses(reading):
            return REFUSED
        self.count += 1
        distance = minus(reading, self.mean)
        self.mean = plus(self.mean, over_count(distance, self.count))
        self.squares = plus(self.squares, times(distance, minus(reading, self.mean)))
        self.widen(reading)
        return 0

    def widen(self, reading):
        if self.count == 1 or rank(reading) < rank(self.least):
            self.least = reading
        if self.count == 1 or rank(reading) > rank(self.most):
            self.most = reading

    def variance(self):
        if self.count < 2:
            return 0
        return over_count(self.squares, self.count - 1)

    def deviation(self):
        return square_root(self.variance())

    def side(self, double):
        if magnitude(double) > INFINITY:
            return NO_NUMBER
        if rank(double) == rank(self.mean):
            return SAME
        return LESS if rank(double) < rank(self.mean) else GREATER

    def steps(self, step):
        # What is no number ranks beyond both infinities, so it is refused here too.
        if rank(step) <= 0 or rank(step) >= INFINITY:
            return [REFUSED]
        quotient = over(self.mean, step)
        # An infinite quotient ranks beyond both bounds.
        if rank(quotient) >= STEPS_BOUND or rank(quotient) < -STEPS_BOUND:
            return [REFUSED]
        return [0, without_fraction(quotient)]


def answered(instrument, call):
    """The numbers that one call answers."""
    number = call[0]
    if number == BEGIN:
        return [instrument.begin()]
    if number == ADD:
        return [instrument.add(call[1])]
    if number == COUNT:
        return [instrument.count]
    if number == MEAN:
        return [instrument.mean]
    if number == VARIANCE:
        return [instrument.variance()]
    if number == DEVIATION:
        return [instrument.deviation()]
    if number == LEAST:
        return [instrument.least]
    if number == MOST:
        return [instrument.most]
    if number == SIDE:
        return [instrument.side(call[1])]
    return instrument.steps(call[1])


def answers(calls):
    """For each call on a new instrument: how many numbers it answers, then these."""
    instrument = Instrument()
    told = []
    place = 0
    while place < len(calls):
        width = WIDTHS[calls[place]]
        numbers = answered(instrument, calls[place:place + width])
        told.append(len(numbers))
        told.extend(numbers)
        place += width
    return told
