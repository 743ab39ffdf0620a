"""Promise 10: ew_cut."""

import inspect
import itertools
import math
import unittest

from evenwords.desk import ew_cut
from helper import LEAST, MOST, check_whole_numbers, nothing_done_outside


def steps(p, q):
    """The first q steps of the line p, q, 0."""
    return [((i + 1) * p) // q - (i * p) // q for i in range(q)]


def is_a_line(part):
    """The first steps of a line a, i, 0 with i as long as the part, a and i without a common divisor above 1."""
    # i steps of that line add up to a
    a, i = sum(part), len(part)
    return math.gcd(a, i) == 1 and part == steps(a, i)


def cuts_by_the_document(p, q):
    """Each place at which the steps are cut into two such lines."""
    word = steps(p, q)
    return [i for i in range(1, q) if is_a_line(word[:i]) and is_a_line(word[i:])]


class Answers(unittest.TestCase):
    def test_cuts_worked_out_by_hand(self):
        # 0 1; 0 01; 01 1; 001 01; 0 0001
        self.assertEqual(ew_cut(1, 2), [1])
        self.assertEqual(ew_cut(1, 3), [1])
        self.assertEqual(ew_cut(2, 3), [2])
        self.assertEqual(ew_cut(2, 5), [3])
        self.assertEqual(ew_cut(1, 5), [1])
        self.assertEqual(ew_cut(4, 10), [-3])

    def test_every_small_line(self):
        for q in range(2, 90):
            for p in range(1, q):
                answer = cuts_by_the_document(p, q) if math.gcd(p, q) == 1 else [-3]
                self.assertEqual(len(answer), 1)
                self.assertEqual(ew_cut(p, q), answer, (p, q))

    def test_longer_lines(self):
        for p, q in ((55, 144), (233, 610), (377, 610), (1, 700), (699, 700), (299, 700), (500, 999), (499, 999)):
            self.assertEqual(ew_cut(p, q), cuts_by_the_document(p, q), (p, q))

    def test_both_parts_are_lines(self):
        for p, q in (
            (618033, 1000000), (381967, 1000000), (499999, 1000000), (3, 1000000), (514229, 832040),
            (317811, 832040), (999979, 999983), (1, 999983), (65536, 999999),
        ):
            word = steps(p, q)
            (i,) = ew_cut(p, q)
            self.assertTrue(1 <= i <= q - 1, (p, q))
            self.assertTrue(is_a_line(word[:i]), (p, q))
            self.assertTrue(is_a_line(word[i:]), (p, q))

    def test_a_line_turned_upside_down_is_cut_from_the_other_end(self):
        for q in (2, 3, 10, 97, 1000, 999983, 1000000):
            for p in sorted({1, 3 % q, q // 3 + 1, q // 2, q - 1} - {0}):
                if math.gcd(p, q) == 1:
                    self.assertEqual(ew_cut(p, q)[0] + ew_cut(q - p, q)[0], q, (p, q))


class Edges(unittest.TestCase):
    def test_the_shortest_line(self):
        self.assertEqual(ew_cut(1, 2), [1])

    def test_the_flattest_and_the_steepest_line(self):
        # 0 and 0 .. 01; 01 .. 1 and 1
        for q in (2, 3, 4, 10, 999999, 1000000):
            self.assertEqual(ew_cut(1, q), [1])
            self.assertEqual(ew_cut(q - 1, q), [q - 1])

    def test_common_divisors(self):
        for p, q in (
            (2, 4), (3, 6), (2, 6), (4, 6), (500000, 1000000), (2, 1000000), (999998, 1000000), (5, 1000000),
            (333333, 999999), (3, 999999), (997, 994009), (993012, 994009),
        ):
            self.assertEqual(ew_cut(p, q), [-3], (p, q))
        for q in (60, 1000, 30030, 999999, 1000000):
            for p in range(1, q, max(1, q // 997)):
                self.assertEqual(ew_cut(p, q) == [-3], math.gcd(p, q) > 1, (p, q))


class Refusals(unittest.TestCase):
    def refused(self, p, q):
        self.assertEqual(ew_cut(p, q), [-2], (p, q))

    def test_q(self):
        for q in (LEAST, LEAST + 1, -1000000, -2, -1, 0, 1, 1000001, 1000003, MOST - 1, MOST):
            for p in (1, 2, 3, 999999):
                self.refused(p, q)
            self.refused(q - 1, q)

    def test_p(self):
        for q in (2, 3, 10, 999999, 1000000):
            for p in (LEAST, LEAST + 1, -q, -1, 0, q, q + 1, MOST):
                self.refused(p, q)

    def test_both_at_once(self):
        for p, q in itertools.product((LEAST, -1, 0, 1000001, MOST), (LEAST, -1, 0, 1, 1000001, MOST)):
            self.refused(p, q)

    def test_the_range_is_refused_ahead_of_a_common_divisor(self):
        for p, q in (
            (0, 4), (4, 4), (6, 4), (-2, 4), (2, -4), (-2, -4), (2, 1000002), (500001, 1000002), (0, 0), (2, 0),
            (1000000, 1000000), (2000000, 1000000), (LEAST, 2), (LEAST, 1000000), (2, LEAST), (MOST, MOST),
        ):
            self.refused(p, q)


class Manners(unittest.TestCase):
    CALLS = ((1, 2), (2, 5), (618033, 1000000), (2, 4), (0, 4), (4, 4), (1, 1), (1, 1000001))

    def test_names_of_the_arguments(self):
        self.assertEqual(list(inspect.signature(ew_cut).parameters), ["p", "q"])

    def test_kinds_of_the_answers(self):
        for p, q in self.CALLS:
            answer = ew_cut(p, q)
            check_whole_numbers(self, answer)
            self.assertEqual(len(answer), 1)

    def test_nothing_is_kept(self):
        first = [ew_cut(p, q) for p, q in self.CALLS]
        for answer in first:
            answer.append(7)
        for (p, q), answer in reversed(list(zip(self.CALLS, first))):
            self.assertEqual(ew_cut(p, q), answer[:-1])

    def test_nothing_is_done_outside(self):
        with nothing_done_outside(self):
            for p, q in self.CALLS:
                ew_cut(p, q)


if __name__ == "__main__":
    unittest.main()
