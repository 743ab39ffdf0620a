"""The calls of evenwords.

A call is handed whole numbers or a word (a list of letters) and gives back a
list of whole numbers. A refusal is a list of one number below 0.
"""

OUT_OF_RANGE = -2
WRONG_LETTER = -3

EVEN_MOST_LETTERS = 256

LINE_MOST_Q = 1000000
LINE_MOST_STEPS = 4096


def outside(number, least, most):
    return number < least or number > most


def only_zeros_and_ones(word):
    for letter in word:
        if letter != 0 and letter != 1:
            return False
    return True


# With these sums the ones of any piece are one subtraction, however long it is.
def ones_ahead_of_places(word):
    total = 0
    ahead = [0]
    for letter in word:
        total = total + letter
        ahead.append(total)
    return ahead


# If the fullest and the emptiest piece are close enough, so are any two.
def pieces_are_level(ahead, length):
    ones = [ahead[i + length] - ahead[i] for i in range(len(ahead) - length)]
    return max(ones) - min(ones) < 2


def is_even(word):
    ahead = ones_ahead_of_places(word)
    for length in range(1, len(word) + 1):
        if not pieces_are_level(ahead, length):
            return False
    return True


def line_steps(p, q, r, n):
    return [((i + 1) * p + r) // q - (i * p + r) // q for i in range(n)]


def ew_even(w):
    if outside(len(w), 1, EVEN_MOST_LETTERS):
        return [OUT_OF_RANGE]
    if not only_zeros_and_ones(w):
        return [WRONG_LETTER]
    if is_even(w):
        return [1]
    return [0]


def ew_line(p, q, r, n):
    if outside(q, 1, LINE_MOST_Q) or outside(n, 1, LINE_MOST_STEPS):
        return [OUT_OF_RANGE]
    if outside(p, 0, q) or outside(r, 0, q - 1):
        return [OUT_OF_RANGE]
    return [n] + line_steps(p, q, r, n)
