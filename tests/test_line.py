"""Promise 2: ew_line."""

import inspect
import itertools
import math
import unittest
from fractions import Fraction

from evenwords.desk import ew_even, ew_line
from helper import LEAST, MOST, check_whole_numbers, nothing_done_outside


def line_by_the_document(p, q, r, n):
    """n, then floor(((i + 1) p + r) / q) - floor((i p + r) / q) for each i."""
    letters = [math.floor(Fraction((i + 1) * p + r, q)) - math.floor(Fraction(i * p + r, q)) for i in range(n)]
    return [n] + letters


class Answers(unittest.TestCase):
    def test_lines_worked_out_by_hand(self):
        self.assertEqual(ew_line(2, 5, 0, 5), [5, 0, 0, 1, 0, 1])
        self.assertEqual(ew_line(2, 5, 4, 5), [5, 1, 0, 1, 0, 0])
        self.assertEqual(ew_line(1, 2, 0, 4), [4, 0, 1, 0, 1])
        self.assertEqual(ew_line(1, 2, 1, 4), [4, 1, 0, 1, 0])
        self.assertEqual(ew_line(3, 4, 0, 9), [9, 0, 1, 1, 1, 0, 1, 1, 1, 0])
        self.assertEqual(ew_line(2, 4, 1, 4), [4, 0, 1, 0, 1])

    def test_every_small_line(self):
        for q in range(1, 10):
            for p, r in itertools.product(range(q + 1), range(q)):
                for n in (1, 2, 3, 23):
                    self.assertEqual(ew_line(p, q, r, n), line_by_the_document(p, q, r, n), (p, q, r, n))

    def test_large_lines(self):
        for p, q, r in (
            (618034, 1000000, 0), (618034, 1000000, 999999), (381966, 999983, 500000),
            (1, 4096, 0), (1, 4096, 4095), (4095, 4096, 1), (1, 4097, 0), (31, 99991, 123),
        ):
            self.assertEqual(ew_line(p, q, r, 4096), line_by_the_document(p, q, r, 4096), (p, q, r))

    def test_steps_are_even(self):
        for p, q, r in ((5, 13, 2), (377, 610, 0), (123456, 1000000, 654321)):
            self.assertEqual(ew_even(ew_line(p, q, r, 256)[1:]), [1])


class Edges(unittest.TestCase):
    def test_each_number_at_the_ends_of_its_range(self):
        for q, n in itertools.product((1, 2, 999999, 1000000), (1, 2, 4095, 4096)):
            for p, r in itertools.product(sorted({0, 1, q - 1, q}), sorted({0, q // 2, q - 1})):
                self.assertEqual(ew_line(p, q, r, n), line_by_the_document(p, q, r, n), (p, q, r, n))

    def test_the_flat_and_the_steepest_line(self):
        for q, r in ((1, 0), (7, 0), (7, 6), (1000000, 0), (1000000, 999999)):
            self.assertEqual(ew_line(0, q, r, 4096), [4096] + [0] * 4096)
            self.assertEqual(ew_line(q, q, r, 4096), [4096] + [1] * 4096)

    def test_a_line_of_one_step(self):
        self.assertEqual(ew_line(1, 1000000, 999998, 1), [1, 0])
        self.assertEqual(ew_line(1, 1000000, 999999, 1), [1, 1])


class Refusals(unittest.TestCase):
    def refused(self, p, q, r, n):
        self.assertEqual(ew_line(p, q, r, n), [-2], (p, q, r, n))

    def test_q(self):
        for q in (LEAST, -1000000, -1, 0, 1000001, MOST):
            self.refused(0, q, 0, 5)
            self.refused(1, q, 0, 5)
            self.refused(q, q, 0, 5)
            self.refused(0, q, q - 1, 5)

    def test_p(self):
        for q in (1, 2, 5, 999999, 1000000):
            for p in (LEAST, -q, -1, q + 1, MOST):
                self.refused(p, q, 0, 5)
                self.refused(p, q, q - 1, 5)

    def test_r(self):
        for q in (1, 2, 5, 999999, 1000000):
            for r in (LEAST, -q, -1, q, q + 1, MOST):
                self.refused(0, q, r, 5)
                self.refused(1, q, r, 5)
                self.refused(q, q, r, 5)

    def test_n(self):
        for n in (LEAST, -4096, -1, 0, 4097, MOST):
            self.refused(0, 1, 0, n)
            self.refused(2, 5, 0, n)
            self.refused(1000000, 1000000, 999999, n)

    def test_several_at_once(self):
        values = {
            "p": (2, (LEAST, -1, 6, MOST)), "q": (5, (LEAST, 0, 1000001, MOST)),
            "r": (3, (LEAST, -1, 5, MOST)), "n": (8, (LEAST, 0, 4097, MOST)),
        }
        for many in (2, 3, 4):
            for wrong in itertools.combinations("pqrn", many):
                choices = [values[name][1] if name in wrong else (values[name][0],) for name in "pqrn"]
                for p, q, r, n in itertools.product(*choices):
                    # a p or r that is wrong for q 5 may be right for another q, but then q is wrong
                    self.refused(p, q, r, n)

    def test_all_at_the_ends_of_what_may_be_handed_in(self):
        for p, q, r, n in itertools.product((LEAST, MOST), repeat=4):
            self.refused(p, q, r, n)


class Manners(unittest.TestCase):
    CALLS = ((2, 5, 0, 5), (0, 1, 0, 1), (1, 1, 0, 4096), (3, 2, 0, 5), (5, 1000000, 999999, 300), (1, 0, 0, 1))

    def test_names_of_the_arguments(self):
        self.assertEqual(list(inspect.signature(ew_line).parameters), ["p", "q", "r", "n"])
        self.assertEqual(list(inspect.signature(ew_even).parameters), ["w"])

    def test_kinds_of_the_answers(self):
        for p, q, r, n in self.CALLS:
            answer = ew_line(p, q, r, n)
            check_whole_numbers(self, answer)
            self.assertEqual(len(answer), 1 if answer[0] < 0 else n + 1)

    def test_nothing_is_kept(self):
        first = [ew_line(*call) for call in self.CALLS]
        for answer in first:
            answer.append(7)
        for call, answer in reversed(list(zip(self.CALLS, first))):
            self.assertEqual(ew_line(*call), answer[:-1])

    def test_nothing_is_done_outside(self):
        with nothing_done_outside(self):
            for call in self.CALLS:
                ew_line(*call)


if __name__ == "__main__":
    unittest.main()
