"""Promise 7: ew_kth."""

import inspect
import itertools
import math
import unittest

from evenwords.desk import ew_even, ew_kth
from helper import LEAST, MOST, check_whole_numbers, nothing_done_outside


def even_by_the_document(word):
    """Of any two pieces of one length neither has two ones more than the other."""
    n = len(word)
    ahead = [0] + list(itertools.accumulate(word))
    for m in range(1, n + 1):
        ones = [ahead[i + m] - ahead[i] for i in range(n - m + 1)]
        if max(ones) - min(ones) >= 2:
            return False
    return True


def even_words_letter_after_letter(n):
    """The even words in order: the front of an even word is even, and 0 goes ahead of 1."""
    words = [()]
    for length in range(n):
        words = [word + (letter,) for word in words for letter in (0, 1) if even_by_the_document(word + (letter,))]
    return words


def lines_in_order(n):
    """The different words that are the first n steps of a line with q up to n."""
    words = set()
    for q in range(1, n + 1):
        for p in range(q + 1):
            if math.gcd(p, q) == 1:
                for r in range(q):
                    high = [(i * p + r) // q for i in range(n + 1)]
                    words.add(tuple(high[i + 1] - high[i] for i in range(n)))
    return sorted(words)


def even_words_of_length(n):
    return 1 + sum((n - i + 1) * sum(math.gcd(i, k) == 1 for k in range(1, i + 1)) for i in range(1, n + 1))


class Answers(unittest.TestCase):
    def check_all(self, n, words):
        for k, word in enumerate(words):
            self.assertEqual(ew_kth(n, k), [n] + list(word), (n, k))
        for k in (len(words), len(words) + 1, 2 * len(words)):
            self.assertEqual(ew_kth(n, k), [-5], (n, k))

    def test_words_worked_out_by_hand(self):
        # of 4 letters all but 0011 and 1100
        texts = "0000 0001 0010 0100 0101 0110 0111 1000 1001 1010 1011 1101 1110 1111".split()
        self.check_all(4, [[int(c) for c in text] for text in texts])

    def test_every_word_of_up_to_eleven_letters(self):
        for n in range(1, 12):
            self.check_all(n, [word for word in itertools.product((0, 1), repeat=n) if even_by_the_document(word)])

    def test_every_word_of_twenty_letters(self):
        self.check_all(20, even_words_letter_after_letter(20))

    def test_the_words_of_a_length_one_after_another(self):
        for n in (13, 17, 25):
            count = even_words_of_length(n)
            words = [ew_kth(n, k) for k in range(count)]
            self.assertTrue(all(one < other for one, other in zip(words, words[1:])))
            self.assertTrue(all(ew_even(word[1:]) == [1] for word in words))
            self.assertEqual(ew_kth(n, count), [-5])

    def test_every_length(self):
        for n in range(1, 65):
            count = even_words_of_length(n)
            for k in (1, count // 3, count // 2 - 1):
                word = ew_kth(n, k)
                self.assertEqual((word[0], len(word)), (n, n + 1))
                self.assertEqual(ew_even(word[1:]), [1])
                # With zeros and ones swapped the order is turned round.
                swapped = [n] + [1 - letter for letter in word[1:]]
                self.assertEqual(ew_kth(n, count - 1 - k), swapped)

    def test_long_words(self):
        for n in (33, 48, 63):
            words = lines_in_order(n)
            self.assertEqual(len(words), even_words_of_length(n))
            for k in range(1, len(words), len(words) // 11):
                self.assertEqual(ew_kth(n, k), [n] + list(words[k]), (n, k))


class Edges(unittest.TestCase):
    def test_words_of_one_letter(self):
        self.assertEqual(ew_kth(1, 0), [1, 0])
        self.assertEqual(ew_kth(1, 1), [1, 1])
        self.assertEqual(ew_kth(1, 2), [-5])
        self.assertEqual(ew_kth(1, MOST), [-5])

    def test_words_of_two_letters(self):
        self.assertEqual([ew_kth(2, k) for k in range(5)], [[2, 0, 0], [2, 0, 1], [2, 1, 0], [2, 1, 1], [-5]])

    def test_the_longest_words(self):
        words = lines_in_order(64)
        count = even_words_of_length(64)
        self.assertEqual(len(words), count)
        for k in sorted({0, 1, 2, 3, 100, 1000, count // 2 - 1, count // 2, count - 2, *range(7, count, 1201)}):
            self.assertEqual(ew_kth(64, k), [64] + list(words[k]), k)
        self.assertEqual(ew_kth(64, 0), [64] + [0] * 64)
        self.assertEqual(ew_kth(64, 1), [64] + [0] * 63 + [1])
        self.assertEqual(ew_kth(64, count - 1), [64] + [1] * 64)
        for k in (count, count + 1, 65536, MOST - 1, MOST):
            self.assertEqual(ew_kth(64, k), [-5])

    def test_the_last_word_of_each_length_and_the_one_after_it(self):
        for n in range(1, 65):
            count = even_words_of_length(n)
            self.assertEqual(ew_kth(n, 0), [n] + [0] * n)
            self.assertEqual(ew_kth(n, count - 1), [n] + [1] * n)
            self.assertEqual(ew_kth(n, count), [-5])
            self.assertEqual(ew_kth(n, MOST), [-5])


class Refusals(unittest.TestCase):
    def refused(self, n, k):
        self.assertEqual(ew_kth(n, k), [-2], (n, k))

    def test_n(self):
        for n in (LEAST, LEAST + 1, -64, -1, 0, 65, 66, 1000, MOST - 1, MOST):
            for k in (0, 1, 5):
                self.refused(n, k)

    def test_k(self):
        for n in (1, 2, 10, 63, 64):
            for k in (LEAST, LEAST + 1, -2, -1):
                self.refused(n, k)

    def test_both_at_once(self):
        for n, k in itertools.product((LEAST, -1, 0, 65, MOST), (LEAST, -1)):
            self.refused(n, k)

    def test_the_range_is_refused_ahead_of_too_great_a_k(self):
        for n in (LEAST, -1, 0, 65, MOST):
            for k in (1000, 100000, MOST):
                self.refused(n, k)


class Manners(unittest.TestCase):
    CALLS = ((1, 0), (1, 1), (1, 2), (10, 100), (64, 27833), (64, 27834), (0, 0), (65, 0), (5, -1), (64, MOST))

    def test_names_of_the_arguments(self):
        self.assertEqual(list(inspect.signature(ew_kth).parameters), ["n", "k"])

    def test_kinds_of_the_answers(self):
        for n, k in self.CALLS:
            answer = ew_kth(n, k)
            check_whole_numbers(self, answer)
            self.assertEqual(len(answer), 1 if answer[0] < 0 else n + 1)

    def test_nothing_is_kept(self):
        first = [ew_kth(n, k) for n, k in self.CALLS]
        for answer in first:
            answer.append(7)
        for (n, k), answer in reversed(list(zip(self.CALLS, first))):
            self.assertEqual(ew_kth(n, k), answer[:-1])

    def test_nothing_is_done_outside(self):
        with nothing_done_outside(self):
            for n, k in self.CALLS:
                ew_kth(n, k)


if __name__ == "__main__":
    unittest.main()
