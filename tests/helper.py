"""Doubles by their bits, calls as they stand in the list, and what Python's own floats make of them."""

import math
import struct

from readingstold.instrument import answers

BEGIN, ADD, COUNT, MEAN, VARIANCE, DEVIATION, LEAST, MOST, SIDE, STEPS = range(10)

POSITIVE_ZERO = 0
NEGATIVE_ZERO = 1 << 63
SIGN = 1 << 63
INFINITE = 0x7FF0000000000000
NO_NUMBERS = [
    0x7FF0000000000001, 0x7FF7FFFFFFFFFFFF, 0x7FF8000000000000, 0x7FF8000000000001, 0x7FFFFFFFFFFFFFFF,
    0x7FF0000100000000, 0x7FFABCDEF0123456,
]
LEAST_ABOVE_ZERO = 5e-324
BOUND = 2.0 ** 400
REFUSED_READINGS = [NO_NUMBERS[2], INFINITE, SIGN | INFINITE, 0x58F0000000000001, SIGN | 0x58F0000000000001]


def bits(number):
    return struct.unpack("<Q", struct.pack("<d", number))[0]


def double(of_bits):
    return struct.unpack("<d", struct.pack("<Q", of_bits))[0]


def add_all(readings):
    calls = []
    for reading in readings:
        calls += [ADD, bits(reading)]
    return calls


def each_told(calls):
    """The numbers that each call answers, a list for each."""
    given = answers(calls)
    parts = []
    while given:
        width = given[0]
        assert len(given) > width, given
        parts.append(given[1:1 + width])
        given = given[1 + width:]
    return parts


def told(calls):
    """The answers of calls that answer one number each, without their counts."""
    given = answers(calls)
    assert given[0::2] == [1] * (len(given) // 2), given
    return given[1::2]


def tail(calls, questions):
    """What the questions, one number each, answer behind the calls, whatever these answer."""
    parts = each_told(calls + questions)[-len(questions):]
    assert [len(part) for part in parts] == [1] * len(questions), parts
    return [part[0] for part in parts]


def state_behind(calls):
    return tail(calls, [COUNT, MEAN, VARIANCE])


def everything_behind(calls):
    return tail(calls, [COUNT, MEAN, VARIANCE, DEVIATION, LEAST, MOST])


class ByFloats:
    """The instrument by Python's floats, one rounded operation after another."""

    def __init__(self):
        self.begin()

    def begin(self):
        self.count, self.mean, self.squares, self.least, self.most = 0, 0.0, 0.0, 0.0, 0.0
        return 0

    def add(self, reading):
        # Every comparison with what is no number is false.
        if not -BOUND <= reading <= BOUND:
            return -1
        self.count += 1
        distance = reading - self.mean
        quotient = distance / float(self.count)
        self.mean = self.mean + quotient
        rest = reading - self.mean
        product = distance * rest
        self.squares = self.squares + product
        if self.count == 1:
            self.least = self.most = reading
        elif reading < self.least:
            self.least = reading
        elif reading > self.most:
            self.most = reading
        return 0

    def variance(self):
        return self.squares / float(self.count - 1) if self.count >= 2 else 0.0

    def side(self, x):
        return 2 if math.isnan(x) else (x > self.mean) - (x < self.mean)

    def steps(self, step):
        if not 0.0 < step < math.inf:
            return [-1]
        quotient = self.mean / step
        return [0, int(quotient)] if -(2.0 ** 63) <= quotient < 2.0 ** 63 else [-1]


def answers_by_floats(calls):
    """What answers gives back, by Python's floats."""
    instrument, given, rest = ByFloats(), [], list(calls)
    while rest:
        call = rest.pop(0)
        x = double(rest.pop(0)) if call in (ADD, SIDE, STEPS) else None
        numbers = {
            BEGIN: lambda: [instrument.begin()],
            ADD: lambda: [instrument.add(x)],
            COUNT: lambda: [instrument.count],
            MEAN: lambda: [bits(instrument.mean)],
            VARIANCE: lambda: [bits(instrument.variance())],
            DEVIATION: lambda: [bits(math.sqrt(instrument.variance()))],
            LEAST: lambda: [bits(instrument.least)],
            MOST: lambda: [bits(instrument.most)],
            SIDE: lambda: [instrument.side(x)],
            STEPS: lambda: instrument.steps(x),
        }[call]()
        given += [len(numbers)] + numbers
    return given


def state_by_floats(readings):
    """Count, mean and variance by Python's floats."""
    instrument = ByFloats()
    for reading in readings:
        instrument.add(reading)
    return [instrument.count, bits(instrument.mean), bits(instrument.variance())]
