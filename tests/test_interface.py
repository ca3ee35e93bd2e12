"""The interface: what is handed in, what is given back, and what is left alone."""

import ast
import contextlib
import io
import pathlib
import unittest

import readingstold
from helper import ADD, BEGIN, COUNT, MEAN, VARIANCE, add_all, bits
from readingstold.instrument import answers

PACKAGE = pathlib.Path(readingstold.__file__).parent


class GivenBack(unittest.TestCase):
    def test_number_by_number(self):
        calls = [BEGIN, COUNT, MEAN, VARIANCE, ADD, bits(1.0), ADD, 0x7FF8000000000000, ADD, bits(3.0), COUNT, MEAN,
                 VARIANCE, BEGIN, COUNT]
        self.assertEqual(answers(calls), [
            1, 0, 1, 0, 1, 0, 1, 0, 1, 0, 1, -1, 1, 0, 1, 2, 1, 0x4000000000000000, 1, 0x4000000000000000, 1, 0, 1, 0])

    def test_one_call(self):
        for call in ([BEGIN], [COUNT], [MEAN], [VARIANCE], [ADD, bits(2.0)]):
            self.assertEqual(answers(call), [1, 0])
        self.assertEqual(answers([ADD, 0xFFFFFFFFFFFFFFFF]), [1, -1])

    def test_a_hundred_calls(self):
        self.assertEqual(answers([BEGIN] * 100), [1, 0] * 100)
        self.assertEqual(answers([ADD, bits(0.5)] * 99 + [COUNT]), [1, 0] * 99 + [1, 99])
        self.assertEqual(answers([ADD, bits(0.5), MEAN] * 50), [1, 0, 1, bits(0.5)] * 50)

    def test_readings_whose_bits_are_call_numbers(self):
        for x in range(10):
            self.assertEqual(answers([ADD, x, COUNT, MEAN]), [1, 0, 1, 1, 1, x])

    def test_whole_numbers_in_a_list(self):
        given = answers(add_all([1.5, -2.5]) + [COUNT, MEAN, VARIANCE, ADD, 0x7FF0000000000000, BEGIN])
        self.assertIs(type(given), list)
        self.assertEqual({type(number) for number in given}, {int})


class LeftAlone(unittest.TestCase):
    CALLS = add_all([1.0, 0.1]) + [COUNT, MEAN, VARIANCE, ADD, 0x7FF0000000000000, BEGIN] + add_all([-3.0]) + [MEAN]

    def test_what_is_handed_in_stays(self):
        calls = list(self.CALLS)
        given = answers(calls)
        self.assertEqual(calls, self.CALLS)
        self.assertIsNot(given, calls)

    def test_what_is_handed_in_is_not_changed_for_a_while_either(self):
        class Watched(list):
            def refuse(self, *what, **more):
                raise AssertionError("changed")

            __setitem__ = __delitem__ = __iadd__ = __imul__ = refuse
            append = extend = insert = pop = remove = clear = reverse = sort = refuse

        self.assertEqual(answers(Watched(self.CALLS)), answers(self.CALLS))

    def test_twice_the_same(self):
        first = answers(self.CALLS)
        kept = list(first)
        self.assertEqual(answers(self.CALLS), kept)
        first.clear()
        self.assertEqual(answers(self.CALLS), kept)

    def test_nothing_is_kept_from_one_time_to_the_next(self):
        answers(add_all([4.0, 9.0]))
        self.assertEqual(answers([COUNT, MEAN, VARIANCE]), [1, 0, 1, 0, 1, 0])

    def test_prints_nothing(self):
        out, err = io.StringIO(), io.StringIO()
        with contextlib.redirect_stdout(out), contextlib.redirect_stderr(err):
            answers(self.CALLS)
        self.assertEqual((out.getvalue(), err.getvalue()), ("", ""))

    def test_reads_and_imports_nothing(self):
        files = sorted(PACKAGE.glob("**/*.py"))
        self.assertIn(PACKAGE / "instrument.py", files)
        for file in files:
            for node in ast.walk(ast.parse(file.read_text(encoding="utf-8"))):
                self.assertNotIsInstance(node, (ast.Import, ast.ImportFrom), file)
                if isinstance(node, ast.Name):
                    self.assertNotIn(node.id, ("open", "input", "print", "__import__", "eval", "exec"), file)


if __name__ == "__main__":
    unittest.main()
