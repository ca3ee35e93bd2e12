"""Doubles by their bits, calls as they stand in the list, and what Python's own floats make of them."""

import struct

from readingstold.instrument import answers

BEGIN, ADD, COUNT, MEAN, VARIANCE = range(5)

POSITIVE_ZERO = 0
NEGATIVE_ZERO = 1 << 63
SIGN = 1 << 63
LEAST_ABOVE_ZERO = 5e-324
BOUND = 2.0 ** 400


def bits(number):
    return struct.unpack("<Q", struct.pack("<d", number))[0]


def double(of_bits):
    return struct.unpack("<d", struct.pack("<Q", of_bits))[0]


def add_all(readings):
    calls = []
    for reading in readings:
        calls += [ADD, bits(reading)]
    return calls


def told(calls):
    """The answers of calls that answer one number each, without their counts."""
    given = answers(calls)
    assert given[0::2] == [1] * (len(given) // 2), given
    return given[1::2]


def tail(calls, questions):
    """What the questions answer behind the calls."""
    return told(calls + questions)[-len(questions):]


def state_behind(calls):
    return tail(calls, [COUNT, MEAN, VARIANCE])


def state_by_floats(readings):
    """Count, mean and variance by Python's floats, one rounded operation after another."""
    count, mean, squares = 0, 0.0, 0.0
    for reading in readings:
        count += 1
        distance = reading - mean
        quotient = distance / float(count)
        mean = mean + quotient
        rest = reading - mean
        product = distance * rest
        squares = squares + product
    variance = squares / float(count - 1) if count >= 2 else 0.0
    return [count, bits(mean), bits(variance)]
