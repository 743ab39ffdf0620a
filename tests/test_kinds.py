"""Promise 4: ew_kinds."""

import inspect
import itertools
import unittest

from evenwords.desk import ew_kinds
from helper import LEAST, MOST, FrozenList, check_whole_numbers, nothing_done_outside


def kinds_by_the_document(word, m):
    """The pieces put side by side: each that is like none ahead of it is one more."""
    different = []
    for i in range(len(word) - m + 1):
        piece = word[i:i + m]
        if not any(piece == other for other in different):
            different.append(piece)
    return len(different)


def line(p, q, r, n):
    return [((i + 1) * p + r) // q - (i * p + r) // q for i in range(n)]


class Answers(unittest.TestCase):
    def check(self, word, m):
        self.assertEqual(ew_kinds(len(word), m, list(word)), [kinds_by_the_document(word, m)], (word, m))

    def test_words_worked_out_by_hand(self):
        self.assertEqual(ew_kinds(5, 2, [0, 1, 0, 0, 1]), [3])
        self.assertEqual(ew_kinds(5, 1, [0, 1, 0, 0, 1]), [2])
        self.assertEqual(ew_kinds(5, 3, [0, 1, 0, 0, 1]), [3])
        self.assertEqual(ew_kinds(6, 2, [7, 7, 7, 7, 7, 7]), [1])
        self.assertEqual(ew_kinds(6, 2, [7, 255, 7, 255, 7, 255]), [2])
        self.assertEqual(ew_kinds(6, 3, [5, 4, 3, 2, 1, 0]), [4])

    def test_every_word_of_two_letters(self):
        for n in range(1, 10):
            for letters in itertools.product((0, 1), repeat=n):
                for m in range(1, n + 1):
                    self.check(list(letters), m)

    def test_every_word_of_three_letters(self):
        for n in range(1, 7):
            for letters in itertools.product((0, 128, 255), repeat=n):
                for m in range(1, n + 1):
                    self.check(list(letters), m)

    def test_letters_that_read_alike_when_they_are_run_together(self):
        for word in ([1, 11, 11, 1], [1, 12, 11, 2], [25, 5, 2, 55, 255], [0, 10, 1, 0, 0, 1, 100], [1, 0, 16, 0, 1]):
            for m in range(1, len(word) + 1):
                self.check(word, m)
        self.assertEqual(ew_kinds(4, 2, [1, 11, 11, 1]), [3])

    def test_letters_that_add_up_alike(self):
        self.assertEqual(ew_kinds(4, 2, [0, 2, 0, 2]), [2])
        self.assertEqual(ew_kinds(4, 2, [1, 1, 0, 2]), [3])
        self.assertEqual(ew_kinds(3, 2, [254, 1, 254]), [2])

    def test_lines_have_one_piece_more_than_the_length(self):
        word = line(233, 610, 0, 512)
        for m in range(1, 15):
            self.assertEqual(ew_kinds(512, m, word), [m + 1])

    def test_long_words(self):
        for word in (
            line(233, 610, 5, 300), [i * i % 256 for i in range(400)], [i * i % 7 for i in range(333)],
            [(i * 2654435761 >> 7) % 4 for i in range(512)], [i.bit_count() % 2 for i in range(512)],
        ):
            for m in (1, 2, 3, 5, 17, len(word) // 2, len(word) - 1, len(word)):
                self.check(word, m)


class Edges(unittest.TestCase):
    def test_words_of_one_letter(self):
        for letter in range(256):
            self.assertEqual(ew_kinds(1, 1, [letter]), [1])

    def test_the_longest_words(self):
        for m in range(1, 513):
            self.assertEqual(ew_kinds(512, m, [0] * 512), [1])
            self.assertEqual(ew_kinds(512, m, [255] * 512), [1])
            self.assertEqual(ew_kinds(512, m, [0, 1] * 256), [min(2, 513 - m)])
            # Pieces of letters that each stand once in 256 differ until the word comes round.
            self.assertEqual(ew_kinds(512, m, list(range(256)) * 2), [min(256, 513 - m)])

    def test_the_longest_words_with_one_letter_of_its_own(self):
        for place in (0, 1, 255, 256, 510, 511):
            word = [9] * place + [8] + [9] * (511 - place)
            for m in (1, 2, 100, 256, 511, 512):
                self.assertEqual(ew_kinds(512, m, word), [kinds_by_the_document(word, m)], (place, m))

    def test_every_letter_stands_once(self):
        for m in range(1, 257):
            self.assertEqual(ew_kinds(256, m, list(range(256))), [257 - m])

    def test_the_last_piece_counts(self):
        self.assertEqual(ew_kinds(4, 2, [0, 0, 0, 1]), [2])
        self.assertEqual(ew_kinds(4, 1, [0, 0, 0, 1]), [2])
        self.assertEqual(ew_kinds(512, 511, [0] * 511 + [1]), [2])

    def test_no_piece_goes_round_the_end(self):
        self.assertEqual(ew_kinds(3, 2, [0, 0, 1]), [2])
        self.assertEqual(ew_kinds(3, 3, [0, 0, 1]), [1])


class Refusals(unittest.TestCase):
    def refused(self, n, m):
        self.assertEqual(ew_kinds(n, m, []), [-2], (n, m))

    def test_n(self):
        for n in (LEAST, LEAST + 1, -512, -1, 0, 513, 514, MOST - 1, MOST):
            for m in (1, 2, 512):
                self.refused(n, m)
            self.refused(n, n)

    def test_m(self):
        for n in (1, 2, 5, 511, 512):
            for m in (LEAST, -n, -1, 0, n + 1, n + 2, 513, MOST):
                self.refused(n, m)

    def test_both_at_once(self):
        for n, m in itertools.product((LEAST, -1, 0, 513, MOST), repeat=2):
            self.refused(n, m)


class Manners(unittest.TestCase):
    CALLS = (
        (1, 1, [0]), (5, 2, [0, 1, 0, 0, 1]), (512, 256, [i % 256 for i in range(512)]), (512, 512, [3] * 512),
        (3, 3, [255, 254, 253]), (0, 1, []), (5, 6, []), (513, 1, []), (5, 0, []),
    )

    def test_names_of_the_arguments(self):
        self.assertEqual(list(inspect.signature(ew_kinds).parameters), ["n", "m", "w"])

    def test_kinds_of_the_answers(self):
        for n, m, word in self.CALLS:
            answer = ew_kinds(n, m, list(word))
            check_whole_numbers(self, answer)
            self.assertEqual(len(answer), 1)

    def test_the_word_is_not_changed(self):
        for n, m, word in self.CALLS:
            frozen = FrozenList(word)
            self.assertEqual(ew_kinds(n, m, frozen), ew_kinds(n, m, list(word)))
            self.assertEqual(list(frozen), word)

    def test_nothing_is_kept(self):
        first = [ew_kinds(n, m, list(word)) for n, m, word in self.CALLS]
        for answer in first:
            answer.append(7)
        for (n, m, word), answer in reversed(list(zip(self.CALLS, first))):
            self.assertEqual(ew_kinds(n, m, list(word)), answer[:-1])

    def test_a_list_changed_between_two_calls(self):
        word = [1, 1, 1, 1]
        self.assertEqual(ew_kinds(4, 2, word), [1])
        word[3] = 0
        self.assertEqual(ew_kinds(4, 2, word), [2])

    def test_nothing_is_done_outside(self):
        with nothing_done_outside(self):
            for n, m, word in self.CALLS:
                ew_kinds(n, m, word)


if __name__ == "__main__":
    unittest.main()
