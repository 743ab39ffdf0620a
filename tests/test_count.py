"""Promise 6: ew_count."""

import inspect
import itertools
import math
import unittest

from evenwords.desk import ew_count
from helper import LEAST, MOST, check_whole_numbers, nothing_done_outside

MOST_P = 4294967295


def even_by_the_document(word):
    """Of any two pieces of one length neither has two ones more than the other."""
    n = len(word)
    for m in range(1, n + 1):
        ones = [sum(word[i:i + m]) for i in range(n - m + 1)]
        if max(ones) - min(ones) >= 2:
            return False
    return True


def even_words_of_each_length(most):
    """How many even words there are of 0, 1, 2 .. letters, counted one by one.

    The front of an even word has no piece of its own, so it is even too.
    """
    words = [()]
    counts = [1]
    for n in range(1, most + 1):
        words = [word + (letter,) for word in words for letter in (0, 1) if even_by_the_document(word + (letter,))]
        counts.append(len(words))
    return counts


def lines_of_length(n):
    """The different words that are the first n steps of a line, with q up to n and somewhat above."""
    words = set()
    for q in range(1, n + 4):
        for p, r in itertools.product(range(q + 1), range(q)):
            words.add(tuple(((i + 1) * p + r) // q - (i * p + r) // q for i in range(n)))
    return len(words)


def even_words_by_pairs(n):
    """1, and for each i up to n, n - i + 1 for each number from 1 to i that has no divisor in common with i."""
    return 1 + sum((n - i + 1) * sum(math.gcd(i, k) == 1 for k in range(1, i + 1)) for i in range(1, n + 1))


class Answers(unittest.TestCase):
    def test_counts_worked_out_by_hand(self):
        # of 4 letters all but 0011 and 1100
        for n, count in ((0, 1), (1, 2), (2, 4), (3, 8), (4, 14)):
            self.assertEqual(ew_count(n, 1000), [0, count])

    def test_every_word_of_up_to_twelve_letters(self):
        for n in range(13):
            count = sum(even_by_the_document(word) for word in itertools.product((0, 1), repeat=n)) if n else 1
            self.assertEqual(ew_count(n, MOST), [0, count], n)

    def test_words_that_are_even_letter_after_letter(self):
        for n, count in enumerate(even_words_of_each_length(24)):
            self.assertEqual(ew_count(n, MOST), [0, count], n)

    def test_lines(self):
        for n in (1, 2, 7, 16, 25, 30):
            self.assertEqual(ew_count(n, MOST), [0, lines_of_length(n)], n)

    def test_every_rest(self):
        for n, count in enumerate(even_words_of_each_length(14)):
            for p in range(2, 420):
                self.assertEqual(ew_count(n, p), [0, count % p], (n, p))

    def test_longer_words(self):
        for n in (64, 100, 101, 255, 256, 257, 511, 512, 720, 997, 998, 999):
            count = even_words_by_pairs(n)
            for p in (2, 3, 4, 10, 97, 65536, 1000003, 2147483646, MOST):
                self.assertEqual(ew_count(n, p), [0, count % p], (n, p))


class Edges(unittest.TestCase):
    def test_the_word_without_letters(self):
        for p in (2, 3, 10, 2147483646, MOST):
            self.assertEqual(ew_count(0, p), [0, 1])

    def test_words_of_one_letter(self):
        self.assertEqual(ew_count(1, 2), [0, 0])
        self.assertEqual(ew_count(1, 3), [0, 2])
        self.assertEqual(ew_count(1, MOST), [0, 2])

    def test_the_most_letters(self):
        count = even_words_by_pairs(1000)
        self.assertEqual(ew_count(1000, MOST), [0, count])
        for p in (2, 3, 7, 256, 1000, count - 1, count, count + 1, 2147483646):
            self.assertEqual(ew_count(1000, p), [0, count % p], p)

    def test_the_least_p(self):
        # Swapping zeros and ones makes two words of each one.
        for n in range(1, 1001, 37):
            self.assertEqual(ew_count(n, 2), [0, 0])


class Refusals(unittest.TestCase):
    def refused(self, n, p):
        self.assertEqual(ew_count(n, p), [-2], (n, p))

    def test_n(self):
        for n in (LEAST, LEAST + 1, -1000, -1, 1001, 1002, 65536, MOST - 1, MOST):
            for p in (2, 7, MOST):
                self.refused(n, p)

    def test_p(self):
        for p in (0, 1, 2147483648, 2147483649, MOST_P - 1, MOST_P):
            for n in (0, 1, 10, 1000):
                self.refused(n, p)

    def test_both_at_once(self):
        for n, p in itertools.product((LEAST, -1, 1001, MOST), (0, 1, 2147483648, MOST_P)):
            self.refused(n, p)


class Manners(unittest.TestCase):
    CALLS = ((0, 2), (1, 2), (10, 7), (1000, MOST), (-1, 2), (1001, 2), (10, 1), (10, 0), (10, MOST_P))

    def test_names_of_the_arguments(self):
        self.assertEqual(list(inspect.signature(ew_count).parameters), ["n", "p"])

    def test_kinds_of_the_answers(self):
        for n, p in self.CALLS:
            answer = ew_count(n, p)
            check_whole_numbers(self, answer)
            self.assertEqual(len(answer), 2 if answer[0] == 0 else 1)

    def test_nothing_is_kept(self):
        first = [ew_count(n, p) for n, p in self.CALLS]
        for answer in first:
            answer.append(7)
        for (n, p), answer in reversed(list(zip(self.CALLS, first))):
            self.assertEqual(ew_count(n, p), answer[:-1])

    def test_nothing_is_done_outside(self):
        with nothing_done_outside(self):
            for n, p in self.CALLS:
                ew_count(n, p)


if __name__ == "__main__":
    unittest.main()
