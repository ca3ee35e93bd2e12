"""The interface: what is handed in, what is given back, and what is left alone."""

import ast
import contextlib
import io
import itertools
import pathlib
import random
import unittest

import readingstold
from helper import (ADD, BEGIN, COUNT, DEVIATION, LEAST, MEAN, MOST, SIDE, STEPS, VARIANCE, add_all, answers_by_floats,
                    bits)
from readingstold.instrument import answers

PACKAGE = pathlib.Path(readingstold.__file__).parent
ALL_TEN = [[BEGIN], [ADD, bits(-2.5)], [COUNT], [MEAN], [VARIANCE], [DEVIATION], [LEAST], [MOST], [SIDE, bits(-3.0)],
           [STEPS, bits(0.5)]]


def in_a_row(calls):
    return list(itertools.chain.from_iterable(calls))


def random_call(source):
    """One of the ten, oftener add; its double is of any bits, or of an ordinary size."""
    number = source.choice([BEGIN, ADD, ADD, ADD, ADD, COUNT, MEAN, VARIANCE, DEVIATION, LEAST, MOST, SIDE, STEPS])
    if number not in (ADD, SIDE, STEPS):
        return [number]
    return [number, source.choice([source.getrandbits(64), source.getrandbits(60), bits(source.gauss(0.0, 9.0)),
                                   bits(float(source.randrange(-9, 10)))])]


class GivenBack(unittest.TestCase):
    def test_number_by_number(self):
        calls = [BEGIN, COUNT, MEAN, VARIANCE, ADD, bits(1.0), ADD, 0x7FF8000000000000, ADD, bits(3.0), COUNT, MEAN,
                 VARIANCE, BEGIN, COUNT]
        self.assertEqual(answers(calls), [
            1, 0, 1, 0, 1, 0, 1, 0, 1, 0, 1, -1, 1, 0, 1, 2, 1, 0x4000000000000000, 1, 0x4000000000000000, 1, 0, 1, 0])

    def test_all_ten_number_by_number(self):
        calls = [ADD, bits(1.0), ADD, bits(3.0), ADD, bits(5.0), ADD, 0x7FF0000000000000, COUNT, MEAN, VARIANCE,
                 DEVIATION, LEAST, MOST, SIDE, bits(2.0), SIDE, bits(3.0), SIDE, bits(4.0), SIDE, 0x7FF8000000000000,
                 STEPS, bits(2.0), STEPS, 0, BEGIN, STEPS, bits(2.0), MOST]
        self.assertEqual(answers(calls), [
            1, 0, 1, 0, 1, 0, 1, -1, 1, 3, 1, 0x4008000000000000, 1, 0x4010000000000000, 1, 0x4000000000000000,
            1, 0x3FF0000000000000, 1, 0x4014000000000000, 1, -1, 1, 0, 1, 1, 1, 2, 2, 0, 1, 1, -1, 1, 0, 2, 0, 0, 1, 0])

    def test_the_numbers_of_the_calls(self):
        # Written out, as the interface has them.
        two, six = 0x4000000000000000, 0x4018000000000000
        self.assertEqual(answers([1, two, 1, six, 2, 3, 4, 5, 6, 7, 8, six, 9, two, 0, 2]), [
            1, 0, 1, 0, 1, 2, 1, 0x4010000000000000, 1, 0x4020000000000000, 1, 0x4006A09E667F3BCD, 1, two, 1, six, 1, 1,
            2, 0, 2, 1, 0, 1, 0])

    def test_one_call(self):
        for call in ([BEGIN], [COUNT], [MEAN], [VARIANCE], [DEVIATION], [LEAST], [MOST], [ADD, bits(2.0)], [SIDE, 0]):
            self.assertEqual(answers(call), [1, 0])
        for call in ([ADD, 0xFFFFFFFFFFFFFFFF], [STEPS, 0xFFFFFFFFFFFFFFFF], [STEPS, 0], [SIDE, bits(-2.0)]):
            self.assertEqual(answers(call), [1, -1])
        self.assertEqual(answers([SIDE, bits(2.0)]), [1, 1])
        self.assertEqual(answers([SIDE, 0xFFFFFFFFFFFFFFFF]), [1, 2])
        self.assertEqual(answers([STEPS, bits(2.0)]), [2, 0, 0])

    def test_all_ten_in_any_order(self):
        source = random.Random(80)
        for _ in range(500):
            calls = add_all([4.0, -0.5]) + in_a_row(source.sample(ALL_TEN, 10))
            self.assertEqual(answers(calls), answers_by_floats(calls), calls)

    def test_any_calls_at_random(self):
        source = random.Random(81)
        for _ in range(1500):
            calls = in_a_row(random_call(source) for _ in range(source.choice((1, 2, 5, 30, 100))))
            self.assertEqual(answers(calls), answers_by_floats(calls), calls)

    def test_a_hundred_calls(self):
        self.assertEqual(answers([BEGIN] * 100), [1, 0] * 100)
        self.assertEqual(answers([ADD, bits(0.5)] * 99 + [COUNT]), [1, 0] * 99 + [1, 99])
        self.assertEqual(answers([ADD, bits(0.5), MEAN] * 50), [1, 0, 1, bits(0.5)] * 50)
        self.assertEqual(answers([STEPS, bits(1.0)] * 100), [2, 0, 0] * 100)
        self.assertEqual(answers([STEPS, 0] * 100), [1, -1] * 100)
        self.assertEqual(answers([SIDE, bits(-1.0)] * 100), [1, -1] * 100)
        calls = in_a_row(ALL_TEN) * 10
        self.assertEqual(answers(calls), answers_by_floats(calls))

    def test_readings_whose_bits_are_call_numbers(self):
        for x in range(10):
            self.assertEqual(answers([ADD, x, COUNT, MEAN]), [1, 0, 1, 1, 1, x])
            self.assertEqual(answers([SIDE, x, COUNT]), [1, 1 if x else 0, 1, 0])
            self.assertEqual(answers([STEPS, x, COUNT]), [2, 0, 0, 1, 0] if x else [1, -1, 1, 0])

    def test_whole_numbers_in_a_list(self):
        sides = [SIDE, bits(-1.0), SIDE, bits(-0.5), SIDE, bits(1.0), SIDE, 0x7FF8000000000000]
        steps = [STEPS, bits(0.1), STEPS, bits(3.0), STEPS, 0]
        refused = [ADD, 0x7FF0000000000000]
        given = answers(add_all([1.5, -2.5]) + in_a_row(ALL_TEN[2:8]) + refused + sides + steps + [BEGIN])
        self.assertIs(type(given), list)
        self.assertEqual({type(number) for number in given}, {int})


class LeftAlone(unittest.TestCase):
    CALLS = (add_all([1.0, 0.1]) + [COUNT, MEAN, VARIANCE, DEVIATION, LEAST, MOST, SIDE, bits(0.5), STEPS, bits(0.25)]
             + [ADD, 0x7FF0000000000000, STEPS, 0, BEGIN] + add_all([-3.0]) + [MEAN, LEAST, MOST])

    def test_what_is_handed_in_stays(self):
        calls = list(self.CALLS)
        given = answers(calls)
        self.assertEqual(calls, self.CALLS)
        self.assertIsNot(given, calls)

    def test_what_is_handed_in_is_not_changed_for_a_while_either(self):
        class Watched(list):
            def refuse(self, *what, **more):
                raise AssertionError("changed")

            __setitem__ = __delitem__ = __iadd__ = __imul__ = refuse
            append = extend = insert = pop = remove = clear = reverse = sort = refuse

        self.assertEqual(answers(Watched(self.CALLS)), answers(self.CALLS))

    def test_twice_the_same(self):
        first = answers(self.CALLS)
        kept = list(first)
        self.assertEqual(answers(self.CALLS), kept)
        first.clear()
        self.assertEqual(answers(self.CALLS), kept)

    def test_nothing_is_kept_from_one_time_to_the_next(self):
        answers(add_all([4.0, 9.0]))
        self.assertEqual(answers([COUNT, MEAN, VARIANCE, DEVIATION, LEAST, MOST, SIDE, 0, STEPS, bits(1.0)]),
                         [1, 0] * 7 + [2, 0, 0])

    def test_prints_nothing(self):
        out, err = io.StringIO(), io.StringIO()
        with contextlib.redirect_stdout(out), contextlib.redirect_stderr(err):
            answers(self.CALLS)
        self.assertEqual((out.getvalue(), err.getvalue()), ("", ""))

    def test_reads_and_imports_nothing(self):
        files = sorted(PACKAGE.glob("**/*.py"))
        self.assertIn(PACKAGE / "instrument.py", files)
        for file in files:
            for node in ast.walk(ast.parse(file.read_text(encoding="utf-8"))):
                self.assertNotIsInstance(node, (ast.Import, ast.ImportFrom), file)
                if isinstance(node, ast.Name):
                    self.assertNotIn(node.id, ("open", "input", "print", "__import__", "eval", "exec"), file)


if __name__ == "__main__":
    unittest.main()
