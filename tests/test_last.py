"""Promise 8: ew_last."""

import functools
import inspect
import itertools
import math
import unittest

from evenwords.desk import ew_last
from helper import FrozenList, check_whole_numbers, nothing_done_outside


def ahead_or_behind(one, other):
    """By the first letter in which two words differ, the lesser first."""
    for letter, another in zip(one, other):
        if letter != another:
            return letter - another
    return 0


def last_by_the_document(word):
    """The turns (letters i to n - 1, then 0 to i - 1) put in order: their last letters."""
    n = len(word)
    turns = [[word[j] for j in range(i, n)] + [word[j] for j in range(i)] for i in range(n)]
    turns.sort(key=functools.cmp_to_key(ahead_or_behind))
    return [n] + [turn[n - 1] for turn in turns]


def line(p, q, r, n):
    return [((i + 1) * p + r) // q - (i * p + r) // q for i in range(n)]


class Answers(unittest.TestCase):
    def check(self, word):
        self.assertEqual(ew_last(list(word)), last_by_the_document(word), word)

    def test_words_worked_out_by_hand(self):
        # the turns in order: 01, 10; 112, 121, 211; 001, 010, 100
        self.assertEqual(ew_last([0, 1]), [2, 1, 0])
        self.assertEqual(ew_last([2, 1, 1]), [3, 2, 1, 1])
        self.assertEqual(ew_last([0, 1, 0]), [3, 1, 0, 0])
        banana = [ord(c) for c in "banana"]
        self.assertEqual(ew_last(banana), [6] + [ord(c) for c in "nnbaaa"])
        # Wherever the word begins, it has the same turns.
        for i in range(6):
            self.assertEqual(ew_last(banana[i:] + banana[:i]), ew_last(banana))

    def test_every_word_of_two_letters(self):
        for n in range(1, 11):
            for letters in itertools.product((0, 1), repeat=n):
                self.check(list(letters))

    def test_every_word_of_four_letters(self):
        for n in range(1, 6):
            for letters in itertools.product((0, 9, 10, 255), repeat=n):
                self.check(list(letters))

    def test_letters_are_numbers(self):
        for word in ([9, 10], [100, 99, 9, 10, 2], [255, 3, 27, 200, 21, 2], [128, 127, 0, 255], [10, 1, 0, 101]):
            self.check(word)
        self.assertEqual(ew_last([10, 9]), [2, 10, 9])

    def test_lines_have_all_ones_first(self):
        for q in range(1, 40):
            for p in range(q + 1):
                if math.gcd(p, q) == 1:
                    self.assertEqual(ew_last(line(p, q, 0, q)), [q] + [1] * p + [0] * (q - p))

    def test_longer_words(self):
        for word in (
            [i * i % 256 for i in range(200)], [i * i % 7 for i in range(99)], [i.bit_count() % 2 for i in range(256)],
            [(i * 2654435761 >> 7) % 3 for i in range(150)], line(89, 233, 17, 233), list(range(255, -1, -1)),
        ):
            self.check(word)


class Edges(unittest.TestCase):
    def test_words_of_one_letter(self):
        for letter in range(256):
            self.assertEqual(ew_last([letter]), [1, letter])

    def test_one_letter_over_and_over(self):
        for n in (1, 2, 3, 100, 511, 512):
            for letter in (0, 1, 128, 255):
                self.assertEqual(ew_last([letter] * n), [n] + [letter] * n)

    def test_words_that_come_back_before_their_end(self):
        # Each of the turns is there as often as the word comes back.
        for again, part in ((2, [1, 0]), (3, [5, 7, 6]), (4, [0, 0, 1]), (7, [255, 0, 255, 1]), (16, [2, 1])):
            once = last_by_the_document(part)[1:]
            answer = [again * len(part)] + [letter for letter in once for time in range(again)]
            self.assertEqual(ew_last(part * again), answer)
            self.assertEqual(last_by_the_document(part * again), answer)

    def test_the_longest_words(self):
        for word in (
            [0, 1] * 256, list(range(256)) * 2, list(range(255, -1, -1)) * 2, [0] * 511 + [1], [255] + [254] * 511,
            [i * i % 256 for i in range(512)], [i.bit_count() % 2 for i in range(512)], line(193, 512, 5, 512),
            [0] * 256 + [255] * 256, [(i * 2654435761 >> 9) % 256 for i in range(512)],
        ):
            self.assertEqual(len(word), 512)
            self.assertEqual(ew_last(list(word)), last_by_the_document(word))


class Refusals(unittest.TestCase):
    def test_a_word_without_letters(self):
        self.assertEqual(ew_last([]), [-2])

    def test_too_many_letters(self):
        self.assertEqual(ew_last([0] * 513), [-2])
        self.assertEqual(ew_last([0, 255] * 500), [-2])


class Manners(unittest.TestCase):
    WORDS = ([], [0], [255], [0, 1, 0, 0, 1], [3, 2, 1], [7, 8] * 256, [i * i % 256 for i in range(512)], [0] * 513)

    def test_names_of_the_arguments(self):
        self.assertEqual(list(inspect.signature(ew_last).parameters), ["w"])

    def test_kinds_of_the_answers(self):
        for word in self.WORDS:
            answer = ew_last(list(word))
            check_whole_numbers(self, answer)
            self.assertEqual(len(answer), 1 if answer[0] < 0 else len(word) + 1)

    def test_the_word_is_not_changed(self):
        for word in self.WORDS:
            frozen = FrozenList(word)
            self.assertEqual(ew_last(frozen), ew_last(list(word)))
            self.assertEqual(list(frozen), word)

    def test_nothing_is_kept(self):
        first = [ew_last(list(word)) for word in self.WORDS]
        for answer in first:
            answer.append(7)
        for word, answer in reversed(list(zip(self.WORDS, first))):
            self.assertEqual(ew_last(list(word)), answer[:-1])

    def test_a_list_changed_between_two_calls(self):
        word = [1, 0, 1]
        self.assertEqual(ew_last(word), [3, 1, 1, 0])
        word[2] = 2
        self.assertEqual(ew_last(word), [3, 1, 2, 0])

    def test_nothing_is_done_outside(self):
        with nothing_done_outside(self):
            for word in self.WORDS:
                ew_last(word)


if __name__ == "__main__":
    unittest.main()
