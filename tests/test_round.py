"""Promise 5: ew_round."""

import inspect
import itertools
import unittest

from evenwords.desk import ew_round
from helper import LEAST, MOST, FrozenList, check_whole_numbers, nothing_done_outside


def comes_round(word, c, a, b):
    """Letter i and letter i + c are the same for all i from a on for which i + c is below n - b."""
    n = len(word)
    i = a
    while i + c < n - b:
        if word[i] != word[i + c]:
            return False
        i += 1
    return True


def round_by_the_document(word, m):
    """The first c, a, b by c, then a, then b, c at least 1 and all together at most m."""
    for c in range(1, m + 1):
        for a in range(m - c + 1):
            for b in range(m - c - a + 1):
                if comes_round(word, c, a, b):
                    return [0, c, a, b]
    return [-5]


def line(p, q, r, n):
    return [((i + 1) * p + r) // q - (i * p + r) // q for i in range(n)]


class Answers(unittest.TestCase):
    def check(self, word, m):
        self.assertEqual(ew_round(len(word), m, list(word)), round_by_the_document(word, m), (word, m))

    def test_words_worked_out_by_hand(self):
        self.assertEqual(ew_round(6, 1, [5, 5, 5, 5, 5, 5]), [0, 1, 0, 0])
        self.assertEqual(ew_round(6, 1, [5, 6, 5, 6, 5, 6]), [-5])
        self.assertEqual(ew_round(6, 2, [5, 6, 5, 6, 5, 6]), [0, 2, 0, 0])
        self.assertEqual(ew_round(6, 3, [9, 6, 5, 6, 5, 6]), [0, 2, 1, 0])
        self.assertEqual(ew_round(6, 3, [5, 6, 5, 6, 5, 9]), [0, 2, 0, 1])
        self.assertEqual(ew_round(6, 4, [9, 6, 5, 6, 5, 9]), [0, 2, 1, 1])
        self.assertEqual(ew_round(6, 3, [9, 6, 5, 6, 5, 9]), [-5])

    def test_a_lesser_c_goes_ahead_of_fewer_letters_left_off(self):
        # c 3 needs no letter left off, c 1 needs five of them
        word = [1, 1, 2, 1, 1, 2, 1]
        self.assertEqual(ew_round(7, 3, word), [0, 3, 0, 0])
        self.assertEqual(ew_round(7, 6, word), [0, 1, 0, 5])
        self.assertEqual(ew_round(7, 7, word), [0, 1, 0, 5])

    def test_a_lesser_a_goes_ahead_of_a_lesser_b(self):
        # 1 letter at the front or 3 at the end may be left off
        word = [8, 7, 7, 7]
        self.assertEqual(ew_round(4, 4, word), [0, 1, 0, 3])
        self.assertEqual(ew_round(4, 3, word), [0, 1, 1, 0])
        self.assertEqual(ew_round(4, 2, word), [0, 1, 1, 0])
        self.assertEqual(ew_round(4, 1, word), [-5])

    def test_every_word_of_two_letters(self):
        for n in range(1, 10):
            for letters in itertools.product((0, 1), repeat=n):
                for m in range(1, n + 1):
                    self.check(list(letters), m)

    def test_every_word_of_three_letters(self):
        for n in range(1, 7):
            for letters in itertools.product((0, 128, 255), repeat=n):
                for m in range(1, n + 1):
                    self.check(list(letters), m)

    def test_words_that_come_round_with_other_letters_before_and_behind(self):
        for c, a, b in itertools.product((1, 2, 3, 7), (0, 1, 2, 5), (0, 1, 4)):
            middle = [i % c + 10 for i in range(4 * c + 6)]
            word = [100 + i for i in range(a)] + middle + [200 + i for i in range(b)]
            self.assertEqual(ew_round(len(word), a + b + c, word), [0, c, a, b], (c, a, b))
            for m in range(1, len(word) + 1):
                self.check(word, m)

    def test_words_without_order(self):
        for word in (
            [i * i % 23 for i in range(40)], [(i * 2654435761 >> 7) % 2 for i in range(40)],
            [i.bit_count() % 2 for i in range(48)], line(21, 55, 3, 50), line(1, 9, 0, 30),
        ):
            for m in range(1, len(word) + 1):
                self.check(word, m)


class Edges(unittest.TestCase):
    def test_words_of_one_letter(self):
        for letter in range(256):
            self.assertEqual(ew_round(1, 1, [letter]), [0, 1, 0, 0])

    def test_words_of_two_letters(self):
        self.assertEqual(ew_round(2, 1, [3, 3]), [0, 1, 0, 0])
        self.assertEqual(ew_round(2, 1, [3, 4]), [-5])
        self.assertEqual(ew_round(2, 2, [3, 3]), [0, 1, 0, 0])
        self.assertEqual(ew_round(2, 2, [3, 4]), [0, 1, 0, 1])

    def test_with_m_as_long_as_the_word_there_always_is_one(self):
        for n in (1, 2, 3, 100, 256):
            self.assertEqual(ew_round(n, n, list(range(n))), [0, 1, 0, n - 1])
        for n in (3, 100, 256):
            self.assertEqual(ew_round(n, n - 1, list(range(n))), [-5])

    def test_the_longest_words(self):
        self.assertEqual(ew_round(512, 1, [255] * 512), [0, 1, 0, 0])
        self.assertEqual(ew_round(512, 512, [255] * 512), [0, 1, 0, 0])
        self.assertEqual(ew_round(512, 1, [0, 1] * 256), [-5])
        self.assertEqual(ew_round(512, 2, [0, 1] * 256), [0, 2, 0, 0])
        self.assertEqual(ew_round(512, 511, [0, 1] * 256), [0, 2, 0, 0])
        self.assertEqual(ew_round(512, 512, [0, 1] * 256), [0, 1, 0, 511])
        ring = list(range(256)) * 2
        self.assertEqual(ew_round(512, 255, ring), [-5])
        self.assertEqual(ew_round(512, 256, ring), [0, 256, 0, 0])
        self.assertEqual(ew_round(512, 511, ring), [0, 256, 0, 0])
        self.assertEqual(ew_round(512, 512, ring), [0, 1, 0, 511])

    def test_the_longest_words_with_one_letter_of_its_own(self):
        self.assertEqual(ew_round(512, 1, [1] + [0] * 511), [-5])
        self.assertEqual(ew_round(512, 2, [1] + [0] * 511), [0, 1, 1, 0])
        self.assertEqual(ew_round(512, 1, [0] * 511 + [1]), [-5])
        self.assertEqual(ew_round(512, 2, [0] * 511 + [1]), [0, 1, 0, 1])
        middle = [0] * 256 + [1] + [0] * 255
        self.assertEqual(ew_round(512, 256, middle), [-5])
        self.assertEqual(ew_round(512, 257, middle), [0, 1, 0, 256])
        middle.reverse()
        self.assertEqual(ew_round(512, 256, middle), [-5])
        self.assertEqual(ew_round(512, 257, middle), [0, 1, 256, 0])
        self.assertEqual(ew_round(512, 258, middle), [0, 1, 0, 257])

    def test_long_words_by_the_document(self):
        for word, m in (
            (line(233, 610, 5, 512), 60), (line(233, 610, 5, 512), 400), ([i * i % 17 for i in range(512)], 17),
            ([i * i % 17 for i in range(512)], 16), ([i * i % 256 for i in range(512)], 40),
            ([7] * 3 + [i * i % 11 for i in range(505)] + [9] * 4, 18),
        ):
            self.assertEqual(ew_round(512, m, list(word)), round_by_the_document(word, m), m)


class Refusals(unittest.TestCase):
    def refused(self, n, m):
        self.assertEqual(ew_round(n, m, []), [-2], (n, m))

    def test_n(self):
        for n in (LEAST, LEAST + 1, -512, -1, 0, 513, 514, MOST - 1, MOST):
            for m in (1, 2, 512):
                self.refused(n, m)
            self.refused(n, n)

    def test_m(self):
        for n in (1, 2, 5, 511, 512):
            for m in (LEAST, -n, -1, 0, n + 1, n + 2, 513, MOST):
                self.refused(n, m)

    def test_both_at_once(self):
        for n, m in itertools.product((LEAST, -1, 0, 513, MOST), repeat=2):
            self.refused(n, m)


class Manners(unittest.TestCase):
    CALLS = (
        (1, 1, [0]), (5, 2, [0, 1, 0, 0, 1]), (512, 255, [i % 256 for i in range(512)]), (512, 512, [3] * 512),
        (5, 4, [9, 8, 7, 8, 7]), (3, 3, [255, 254, 253]), (0, 1, []), (5, 6, []), (513, 1, []), (5, 0, []),
    )

    def test_names_of_the_arguments(self):
        self.assertEqual(list(inspect.signature(ew_round).parameters), ["n", "m", "w"])

    def test_kinds_of_the_answers(self):
        for n, m, word in self.CALLS:
            answer = ew_round(n, m, list(word))
            check_whole_numbers(self, answer)
            self.assertEqual(len(answer), 4 if answer[0] == 0 else 1)

    def test_the_word_is_not_changed(self):
        for n, m, word in self.CALLS:
            frozen = FrozenList(word)
            self.assertEqual(ew_round(n, m, frozen), ew_round(n, m, list(word)))
            self.assertEqual(list(frozen), word)

    def test_nothing_is_kept(self):
        first = [ew_round(n, m, list(word)) for n, m, word in self.CALLS]
        for answer in first:
            answer.append(7)
        for (n, m, word), answer in reversed(list(zip(self.CALLS, first))):
            self.assertEqual(ew_round(n, m, list(word)), answer[:-1])

    def test_a_list_changed_between_two_calls(self):
        word = [1, 1, 1, 1]
        self.assertEqual(ew_round(4, 2, word), [0, 1, 0, 0])
        word[3] = 0
        self.assertEqual(ew_round(4, 2, word), [0, 1, 0, 1])

    def test_nothing_is_done_outside(self):
        with nothing_done_outside(self):
            for n, m, word in self.CALLS:
                ew_round(n, m, word)


if __name__ == "__main__":
    unittest.main()
