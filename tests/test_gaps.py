"""Promise 9: ew_gaps."""

import inspect
import itertools
import math
import unittest

from evenwords.desk import ew_gaps
from helper import LEAST, MOST, check_whole_numbers, nothing_done_outside


def gaps_by_the_document(n, s, k):
    """From each point place after place around the ring to the next one."""
    if k * math.gcd(n, s) > n:
        return [-2]
    points = [i * s % n for i in range(k)]
    taken = [False] * n
    for point in points:
        taken[point] = True
    counts = {}
    for point in points:
        distance = 1
        while not taken[(point + distance) % n]:
            distance += 1
        counts[distance] = counts.get(distance, 0) + 1
    return [len(counts)] + [number for pair in sorted(counts.items()) for number in pair]


class Answers(unittest.TestCase):
    def check(self, n, s, k):
        self.assertEqual(ew_gaps(n, s, k), gaps_by_the_document(n, s, k), (n, s, k))

    def test_rings_worked_out_by_hand(self):
        # points 0, 3, 6, 9, 2 of 10: 0 2 3 6 9
        self.assertEqual(ew_gaps(10, 3, 5), [3, 1, 2, 2, 1, 3, 2])
        # points 0, 3, 6, 9 of 10
        self.assertEqual(ew_gaps(10, 3, 4), [2, 1, 1, 3, 3])
        # points 0, 4, 8, 2, 6 of 10
        self.assertEqual(ew_gaps(10, 4, 5), [1, 2, 5])
        # points 0, 1 of 10
        self.assertEqual(ew_gaps(10, 1, 2), [2, 1, 1, 9, 1])
        # points 0, 9 of 10
        self.assertEqual(ew_gaps(10, 9, 2), [2, 1, 1, 9, 1])
        # points 0, 5 of 10
        self.assertEqual(ew_gaps(10, 5, 2), [1, 5, 2])

    def test_every_small_ring(self):
        for n in range(1, 31):
            for s, k in itertools.product(range(n), range(1, n + 3)):
                self.check(n, s, k)

    def test_middle_rings(self):
        for n, s in ((100, 37), (144, 89), (997, 382), (1000, 618), (1024, 633), (2310, 30), (1001, 77), (4096, 1)):
            for k in (1, 2, 3, 5, 8, 13, 31, 60, 77, 100, 500):
                self.check(n, s, k)

    def test_at_most_three_distances_which_go_round_the_ring_once(self):
        for n, s, k in ((999983, 381924, 65536), (1000000, 618033, 40000), (123456, 7, 12345), (65537, 3, 65536)):
            answer = ew_gaps(n, s, k)
            self.assertIn(answer[0], (1, 2, 3))
            self.assertEqual(len(answer), 1 + 2 * answer[0])
            self.assertEqual(sum(answer[2::2]), k)
            self.assertEqual(sum(d * many for d, many in zip(answer[1::2], answer[2::2])), n)
            self.assertEqual(answer[1::2], sorted(answer[1::2]))


class Edges(unittest.TestCase):
    def test_the_ring_of_one_place(self):
        self.assertEqual(ew_gaps(1, 0, 1), [1, 1, 1])
        self.assertEqual(ew_gaps(1, 0, 2), [-2])
        self.assertEqual(ew_gaps(1, 0, 65536), [-2])

    def test_one_point_alone(self):
        for n in (1, 2, 3, 10, 999999, 1000000):
            for s in sorted({0, 1 % n, n // 2, n - 1}):
                self.assertEqual(ew_gaps(n, s, 1), [1, n, 1], (n, s))

    def test_without_a_step_there_is_one_point(self):
        for n in (1, 2, 3, 10, 999999, 1000000):
            self.assertEqual(ew_gaps(n, 0, 1), [1, n, 1])
            self.assertEqual(ew_gaps(n, 0, 2), [-2])

    def test_the_greatest_ring_and_the_most_points(self):
        for n, k in itertools.product((65536, 65537, 131072, 999999, 1000000), (1, 2, 65535, 65536)):
            for s in (1, 2, n // 3, n - 2, n - 1):
                self.assertEqual(ew_gaps(n, s, k), gaps_by_the_document(n, s, k), (n, s, k))
        for s in (15, 16, 618033, 381966, 500001):
            self.assertEqual(ew_gaps(1000000, s, 65536), gaps_by_the_document(1000000, s, 65536), s)

    def test_all_places_taken(self):
        for n, s in ((2, 1), (10, 3), (65535, 2), (65536, 1), (65536, 65535), (65536, 40503)):
            self.assertEqual(ew_gaps(n, s, n), [1, 1, n])

    def test_points_just_as_many_as_there_are_places_for_them(self):
        for n, s in ((10, 4), (10, 5), (12, 8), (30, 12), (1000000, 500000), (1000000, 999984), (131072, 2), (999999, 3003)):
            divisor = math.gcd(n, s)
            if n // divisor <= 65536:
                self.assertEqual(ew_gaps(n, s, n // divisor), [1, divisor, n // divisor], (n, s))
            if n // divisor < 65536:
                self.assertEqual(ew_gaps(n, s, n // divisor + 1), [-2], (n, s))
        # 65536 points two places apart have room from 131072 places on
        self.assertEqual(ew_gaps(131072, 2, 65536), [1, 2, 65536])
        self.assertEqual(ew_gaps(131070, 2, 65536), [-2])
        self.assertEqual(ew_gaps(131070, 2, 65535), [1, 2, 65535])


class Refusals(unittest.TestCase):
    def refused(self, n, s, k):
        self.assertEqual(ew_gaps(n, s, k), [-2], (n, s, k))

    def test_n(self):
        for n in (LEAST, LEAST + 1, -1000000, -1, 0, 1000001, 1000003, MOST - 1, MOST):
            self.refused(n, 0, 1)
            self.refused(n, 1, 1)
            self.refused(n, n - 1, 1)
            self.refused(n, -1, 1)
            self.refused(n, 1, 65536)

    def test_s(self):
        for n in (1, 2, 10, 999999, 1000000):
            for s in (LEAST, -n, -1, n, n + 1, 1000001, MOST):
                self.refused(n, s, 1)
        self.refused(10, 13, 2)
        self.refused(10, -7, 2)

    def test_k(self):
        for n, s in ((1, 0), (10, 3), (999999, 1), (1000000, 1), (1000000, 999999)):
            for k in (LEAST, -65536, -1, 0, 65537, 65538, MOST):
                self.refused(n, s, k)

    def test_too_many_points_for_their_places(self):
        for n, s, k in ((2, 1, 3), (10, 3, 11), (10, 4, 6), (10, 5, 3), (10, 0, 2), (65535, 1, 65536), (99, 33, 4)):
            self.refused(n, s, k)

    def test_several_at_once(self):
        values = ((10, (LEAST, 0, 1000001, MOST)), (3, (LEAST, -1, 10, MOST)), (4, (LEAST, 0, 65537, MOST)))
        for wrong in ((0, 1), (0, 2), (1, 2), (0, 1, 2)):
            for n, s, k in itertools.product(*(
                values[i][1] if i in wrong else (values[i][0],) for i in range(3)
            )):
                # an s that is wrong for n 10 may be right for another n, but then n or k is wrong
                self.refused(n, s, k)

    def test_all_at_the_ends_of_what_may_be_handed_in(self):
        for n, s, k in itertools.product((LEAST, MOST), repeat=3):
            self.refused(n, s, k)


class Manners(unittest.TestCase):
    CALLS = ((1, 0, 1), (10, 3, 5), (10, 4, 5), (10, 4, 6), (1000000, 618033, 65536), (0, 0, 1), (5, 5, 1), (5, 1, 0))

    def test_names_of_the_arguments(self):
        self.assertEqual(list(inspect.signature(ew_gaps).parameters), ["n", "s", "k"])

    def test_kinds_of_the_answers(self):
        for n, s, k in self.CALLS:
            answer = ew_gaps(n, s, k)
            check_whole_numbers(self, answer)
            self.assertEqual(len(answer), 1 if answer[0] < 0 else 1 + 2 * answer[0])

    def test_nothing_is_kept(self):
        first = [ew_gaps(n, s, k) for n, s, k in self.CALLS]
        for answer in first:
            answer.append(7)
        for (n, s, k), answer in reversed(list(zip(self.CALLS, first))):
            self.assertEqual(ew_gaps(n, s, k), answer[:-1])

    def test_nothing_is_done_outside(self):
        with nothing_done_outside(self):
            for n, s, k in self.CALLS:
                ew_gaps(n, s, k)


if __name__ == "__main__":
    unittest.main()
