"""Promise 3: ew_shape."""

import inspect
import itertools
import unittest

from evenwords.desk import ew_even, ew_line, ew_shape
from helper import FrozenList, check_whole_numbers, nothing_done_outside


def steps(p, q, r, n):
    return [((i + 1) * p + r) // q - (i * p + r) // q for i in range(n)]


def shapes_up_to(most_q):
    """All q, p, r of the document, by q, then p, then r."""
    for q in range(1, most_q + 1):
        for p in range(q + 1):
            for r in range(q):
                yield q, p, r


def first_shape_by_the_document(word, most_q):
    n, ones = len(word), sum(word)
    for q, p in ((q, p) for q in range(1, most_q + 1) for p in range(q + 1)):
        # The steps add up to floor((n p + r) / q): no r lifts a line that's too low, or lowers one too high.
        if (n * p + q - 1) // q < ones or n * p // q > ones:
            continue
        for r in range(q):
            if steps(p, q, r, n) == word:
                return [0, q, p, r]
    raise AssertionError("there is no such line up to this q")


def first_shapes_of_length(n, most_q):
    """Each word of n letters that is a line's steps, with its first q, p, r."""
    found = {}
    for q, p, r in shapes_up_to(most_q):
        found.setdefault(tuple(steps(p, q, r, n)), [0, q, p, r])
    return found


class Answers(unittest.TestCase):
    def test_words_worked_out_by_hand(self):
        for text, answer in (
            ("0", [0, 1, 0, 0]), ("1", [0, 1, 1, 0]), ("00", [0, 1, 0, 0]), ("11", [0, 1, 1, 0]),
            ("01", [0, 2, 1, 0]), ("10", [0, 2, 1, 1]), ("001", [0, 3, 1, 0]), ("010", [0, 2, 1, 0]),
            ("100", [0, 3, 1, 2]), ("011", [0, 3, 2, 0]), ("0110", [0, 3, 2, 0]), ("1001", [0, 3, 1, 2]),
            ("00101", [0, 5, 2, 0]), ("10100", [0, 5, 2, 4]), ("0011", [-5]), ("1100", [-5]), ("101000", [-5]),
        ):
            with self.subTest(word=text):
                self.assertEqual(ew_shape([int(c) for c in text]), answer)

    def test_every_word_of_up_to_ten_letters(self):
        for n in range(1, 11):
            first = first_shapes_of_length(n, 2 * n + 3)
            for letters in itertools.product((0, 1), repeat=n):
                self.assertEqual(ew_shape(list(letters)), first.get(letters, [-5]), letters)

    def test_every_line_of_sixteen_letters(self):
        for letters, answer in first_shapes_of_length(16, 20).items():
            self.assertEqual(ew_shape(list(letters)), answer, letters)

    def test_none_if_and_only_if_the_word_is_not_even(self):
        for letters in itertools.product((0, 1), repeat=13):
            self.assertEqual(ew_shape(list(letters)) == [-5], ew_even(list(letters)) == [0], letters)

    def test_lines_of_which_only_a_part_is_seen(self):
        for p, q, r in ((377, 610, 0), (89, 233, 232), (1, 100, 70), (99, 100, 3), (314159, 1000000, 271828)):
            for n in (2, 7, 19, 33, 60):
                word = steps(p, q, r, n)
                self.assertEqual(ew_shape(word), first_shape_by_the_document(word, n), (p, q, r, n))

    def test_a_line_with_one_letter_swapped(self):
        for p, q, r in ((5, 13, 0), (7, 17, 3), (1, 9, 8), (12, 31, 15), (1, 2, 0)):
            line = steps(p, q, r, 40)
            for i in range(40):
                word = line[:i] + [1 - line[i]] + line[i + 1:]
                answer = [-5] if ew_even(word) == [0] else first_shape_by_the_document(word, 40)
                self.assertEqual(ew_shape(word), answer, word)


class Edges(unittest.TestCase):
    def test_words_of_one_letter(self):
        self.assertEqual(ew_shape([0]), [0, 1, 0, 0])
        self.assertEqual(ew_shape([1]), [0, 1, 1, 0])

    def test_zeros_alone_and_ones_alone(self):
        for n in range(1, 257):
            self.assertEqual(ew_shape([0] * n), [0, 1, 0, 0])
            self.assertEqual(ew_shape([1] * n), [0, 1, 1, 0])

    def test_the_greatest_q_of_each_length(self):
        # With the odd letter last, the line is below 1 for n - 1 steps: q is at least n.
        for n in (2, 3, 10, 100, 255, 256):
            self.assertEqual(ew_shape([0] * (n - 1) + [1]), [0, n, 1, 0])
            self.assertEqual(ew_shape([1] + [0] * (n - 1)), [0, n, 1, n - 1])
            self.assertEqual(ew_shape([0] + [1] * (n - 1)), [0, n, n - 1, 0])
            self.assertEqual(ew_shape([1] * (n - 1) + [0]), [0, n, n - 1, n - 1])

    def test_words_of_the_most_letters(self):
        for p, q, r in ((1, 2, 0), (1, 2, 1), (34, 89, 0), (34, 89, 88), (41, 97, 50), (2, 3, 1), (98, 99, 98)):
            word = steps(p, q, r, 256)
            self.assertEqual(ew_shape(word), first_shape_by_the_document(word, q), (p, q, r))

    def test_words_of_the_most_letters_with_a_great_q(self):
        for word in (
            [0, 1] * 127 + [0, 0], [1] + [1, 0] * 127 + [1], steps(123, 256, 0, 256), steps(618034, 1000000, 77, 256),
        ):
            self.assertEqual(ew_shape(word), first_shape_by_the_document(word, 256))

    def test_words_of_the_most_letters_that_are_no_line(self):
        for word in (
            [0] * 128 + [1] * 128, [1] * 128 + [0] * 128, [1, 1] + [0] * 254, [0] * 254 + [1, 1],
            [1] + [0] * 126 + [1] + [0] * 128, [1, 1] + [0, 1] * 126 + [0, 0],
        ):
            self.assertEqual(ew_shape(word), [-5])

    def test_the_answer_has_the_steps(self):
        for p, q, r in ((611, 997, 12), (255, 256, 17), (3, 500, 499), (499999, 1000000, 1)):
            for n in (200, 255, 256):
                word = steps(p, q, r, n)
                zero, q_found, p_found, r_found = ew_shape(word)
                self.assertEqual(zero, 0)
                self.assertEqual(ew_line(p_found, q_found, r_found, n), [n] + word)


class Refusals(unittest.TestCase):
    def test_a_word_without_letters(self):
        self.assertEqual(ew_shape([]), [-2])

    def test_too_many_letters(self):
        self.assertEqual(ew_shape([0] * 257), [-2])
        self.assertEqual(ew_shape([0, 1] * 500), [-2])

    def test_every_other_letter(self):
        for letter in range(2, 256):
            self.assertEqual(ew_shape([letter]), [-3])
            self.assertEqual(ew_shape([letter, 0, 1]), [-3])
            self.assertEqual(ew_shape([0, letter, 1]), [-3])
            self.assertEqual(ew_shape([0, 1, letter]), [-3])

    def test_an_other_letter_in_the_longest_words(self):
        for place in range(256):
            self.assertEqual(ew_shape([0] * place + [2] + [0] * (255 - place)), [-3])
        self.assertEqual(ew_shape([255] * 256), [-3])

    def test_an_other_letter_is_refused_ahead_of_a_word_that_is_no_line(self):
        self.assertEqual(ew_shape([1, 1, 0, 0, 2]), [-3])
        self.assertEqual(ew_shape([2, 1, 1, 0, 0]), [-3])
        self.assertEqual(ew_shape([1] * 128 + [0] * 127 + [255]), [-3])

    def test_the_length_is_refused_ahead_of_all_else(self):
        self.assertEqual(ew_shape([2] * 257), [-2])
        self.assertEqual(ew_shape([0] * 256 + [255]), [-2])
        self.assertEqual(ew_shape([1, 1] + [0] * 255), [-2])


class Manners(unittest.TestCase):
    WORDS = (
        [], [0], [1], [0, 1, 0, 0, 1], [1, 1, 0, 0], [0, 2, 1], [0, 1] * 128, [1] * 128 + [0] * 128, [1] + [0] * 255,
        [0] * 257,
    )

    def test_names_of_the_arguments(self):
        self.assertEqual(list(inspect.signature(ew_shape).parameters), ["w"])

    def test_kinds_of_the_answers(self):
        for word in self.WORDS:
            answer = ew_shape(list(word))
            check_whole_numbers(self, answer)
            self.assertEqual(len(answer), 4 if answer[0] == 0 else 1)

    def test_the_word_is_not_changed(self):
        for word in self.WORDS:
            frozen = FrozenList(word)
            self.assertEqual(ew_shape(frozen), ew_shape(list(word)))
            self.assertEqual(list(frozen), word)

    def test_nothing_is_kept(self):
        first = [ew_shape(list(word)) for word in self.WORDS]
        for answer in first:
            answer.append(7)
        for word, answer in reversed(list(zip(self.WORDS, first))):
            self.assertEqual(ew_shape(list(word)), answer[:-1])

    def test_a_list_changed_between_two_calls(self):
        word = [1, 1, 0, 1]
        self.assertEqual(ew_shape(word), [0, 3, 2, 2])
        word[3] = 0
        self.assertEqual(ew_shape(word), [-5])

    def test_nothing_is_done_outside(self):
        with nothing_done_outside(self):
            for word in self.WORDS:
                ew_shape(word)


if __name__ == "__main__":
    unittest.main()
