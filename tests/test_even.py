"""Promise 1: ew_even."""

import itertools
import math
import unittest

from evenwords.desk import ew_even
from helper import FrozenList, check_whole_numbers, nothing_done_outside


def even_by_the_document(word):
    """Of any two pieces of one length neither has two ones more than the other."""
    n = len(word)
    for m in range(1, n + 1):
        pieces = [word[i:i + m] for i in range(n) if i + m <= n]
        for one, other in itertools.combinations(pieces, 2):
            if abs(one.count(1) - other.count(1)) >= 2:
                return 0
    return 1


def even_words_of_length(n):
    return 1 + sum((n - i + 1) * sum(math.gcd(i, k) == 1 for k in range(1, i + 1)) for i in range(1, n + 1))


def word_with_ones_at(n, places):
    return [1 if i in places else 0 for i in range(n)]


def swapped(word):
    return [1 - letter for letter in word]


def steps(p, q, r, n):
    return [((i + 1) * p + r) // q - (i * p + r) // q for i in range(n)]


class Answers(unittest.TestCase):
    def test_words_worked_out_by_hand(self):
        for text, answer in (
            ("0", 1), ("1", 1), ("00", 1), ("01", 1), ("10", 1), ("11", 1),
            ("0011", 0), ("1100", 0), ("0110", 1), ("1001", 1), ("0101", 1),
            ("01001", 1), ("00100", 1), ("10001", 1), ("11001", 0), ("101000", 0),
            ("010010100100101001010", 1), ("1101011", 1), ("11011000", 0),
        ):
            with self.subTest(word=text):
                self.assertEqual(ew_even([int(c) for c in text]), [answer])

    def test_every_word_of_up_to_ten_letters(self):
        for n in range(1, 11):
            for letters in itertools.product((0, 1), repeat=n):
                word = list(letters)
                self.assertEqual(ew_even(word), [even_by_the_document(word)], word)

    def test_how_many_words_of_a_length_are_even(self):
        # 1 + the sum over i of (n - i + 1) times how many of 1 to i share no divisor with i
        self.assertEqual([even_words_of_length(n) for n in range(1, 5)], [2, 4, 8, 14])
        for n in range(1, 14):
            words = itertools.product((0, 1), repeat=n)
            self.assertEqual(sum(ew_even(list(word))[0] for word in words), even_words_of_length(n), n)

    def test_a_line_with_one_letter_swapped(self):
        for p, q, r in ((5, 13, 0), (7, 17, 3), (1, 9, 8), (12, 31, 15), (1, 2, 0)):
            line = steps(p, q, r, 40)
            self.assertEqual(ew_even(line), [1])
            for i in range(40):
                word = line[:i] + [1 - line[i]] + line[i + 1:]
                self.assertEqual(ew_even(word), [even_by_the_document(word)], word)

    def test_every_pair_of_ones_in_thirty_letters(self):
        for places in itertools.combinations(range(30), 2):
            word = word_with_ones_at(30, places)
            answer = [even_by_the_document(word)]
            self.assertEqual(ew_even(word), answer, places)
            self.assertEqual(ew_even(swapped(word)), answer, places)


class Edges(unittest.TestCase):
    def test_words_of_one_letter(self):
        self.assertEqual(ew_even([0]), [1])
        self.assertEqual(ew_even([1]), [1])

    def test_words_of_the_most_letters(self):
        self.assertEqual(ew_even([0] * 256), [1])
        self.assertEqual(ew_even([1] * 256), [1])
        self.assertEqual(ew_even([0, 1] * 128), [1])
        self.assertEqual(ew_even([0] * 128 + [1] * 128), [0])
        for p, q, r in ((1, 256, 0), (377, 610, 5), (999999, 1000000, 999999), (89, 233, 232)):
            self.assertEqual(ew_even(steps(p, q, r, 256)), [1])

    def test_uneven_at_the_ends_of_the_longest_words(self):
        self.assertEqual(ew_even([1, 1] + [0] * 254), [0])
        self.assertEqual(ew_even([0] * 254 + [1, 1]), [0])
        self.assertEqual(ew_even([1] * 254 + [0, 0]), [0])

    def test_uneven_in_the_longest_pieces_alone(self):
        # Two ones 127 apart: only pieces of 128 letters tell the two halves apart.
        # 128 apart, each piece that long has a one.
        for first, second, answer in ((0, 127, 0), (128, 255, 0), (0, 128, 1), (127, 255, 1)):
            word = word_with_ones_at(256, (first, second))
            self.assertEqual(ew_even(word), [answer])
            self.assertEqual(ew_even(swapped(word)), [answer])


class Refusals(unittest.TestCase):
    def test_a_word_without_letters(self):
        self.assertEqual(ew_even([]), [-2])

    def test_too_many_letters(self):
        self.assertEqual(ew_even([0] * 257), [-2])
        self.assertEqual(ew_even([0, 1] * 500), [-2])

    def test_every_other_letter(self):
        for letter in range(2, 256):
            self.assertEqual(ew_even([letter]), [-3])
            self.assertEqual(ew_even([letter, 0, 1]), [-3])
            self.assertEqual(ew_even([0, letter, 1]), [-3])
            self.assertEqual(ew_even([0, 1, letter]), [-3])

    def test_an_other_letter_in_the_longest_words(self):
        for place in range(256):
            self.assertEqual(ew_even([0] * place + [2] + [0] * (255 - place)), [-3])
        self.assertEqual(ew_even([255] * 256), [-3])

    def test_an_other_letter_in_an_uneven_word(self):
        self.assertEqual(ew_even([1, 1, 0, 0, 2]), [-3])
        self.assertEqual(ew_even([2, 1, 1, 0, 0]), [-3])

    def test_the_length_is_refused_ahead_of_the_letters(self):
        self.assertEqual(ew_even([2] * 257), [-2])
        self.assertEqual(ew_even([0] * 256 + [255]), [-2])


class Manners(unittest.TestCase):
    WORDS = ([], [0], [0, 1, 0, 0, 1], [1, 1, 0, 0], [0, 2, 1], [0, 1] * 128, [1] * 128 + [0] * 128, [0] * 257)

    def test_kinds_of_the_answers(self):
        for word in self.WORDS:
            answer = ew_even(list(word))
            check_whole_numbers(self, answer)
            self.assertEqual(len(answer), 1)

    def test_the_word_is_not_changed(self):
        for word in self.WORDS:
            frozen = FrozenList(word)
            self.assertEqual(ew_even(frozen), ew_even(list(word)))
            self.assertEqual(list(frozen), word)

    def test_nothing_is_kept(self):
        first = [ew_even(list(word)) for word in self.WORDS]
        for answer in first:
            answer.append(7)
        for word, answer in reversed(list(zip(self.WORDS, first))):
            self.assertEqual(ew_even(list(word)), answer[:-1])

    def test_a_list_changed_between_two_calls(self):
        word = [1, 1, 0, 1]
        self.assertEqual(ew_even(word), [1])
        word[3] = 0
        self.assertEqual(ew_even(word), [0])

    def test_nothing_is_done_outside(self):
        with nothing_done_outside(self):
            for word in self.WORDS:
                ew_even(word)


if __name__ == "__main__":
    unittest.main()
