"""The calls of evenwords.

A call is handed whole numbers or a word (a list of letters) and gives back a
list of whole numbers. A refusal is a list of one number below 0.
"""

OUT_OF_RANGE = -2
WRONG_LETTER = -3
NOT_COPRIME = -3
NONE_SUCH = -5

# Words of zeros and ones are the short ones, words of any letters the long ones.
SHORT_WORD_MOST = 256
LONG_WORD_MOST = 512

LINE_MOST_Q = 1000000
LINE_MOST_STEPS = 4096

COUNT_MOST_LETTERS = 1000
COUNT_MOST_P = 2147483647

KTH_MOST_LETTERS = 64

GAPS_MOST_PLACES = 1000000
GAPS_MOST_POINTS = 65536

CUT_MOST_Q = 1000000


def outside(number, least, most):
    return number < least or number > most


def only_zeros_and_ones(word):
    for letter in word:
        if letter != 0 and letter != 1:
            return False
    return True


# With these sums the ones of any piece are one subtraction, however long it is.
def ones_ahead_of_places(word):
    total = 0
    ahead = [0]
    for letter in word:
        total = total + letter
        ahead.append(total)
    return ahead


# If the fullest and the emptiest piece are close enough, so are any two.
def pieces_are_level(ahead, length):
    ones = [ahead[i + length] - ahead[i] for i in range(len(ahead) - length)]
    return max(ones) - min(ones) < 2


def is_even(word):
    ahead = ones_ahead_of_places(word)
    for length in range(1, len(word) + 1):
        if not pieces_are_level(ahead, length):
            return False
    return True


def line_steps(p, q, r, n):
    return [((i + 1) * p + r) // q - (i * p + r) // q for i in range(n)]


# The line p, q, r has the word's steps if at every place it has come as high as
# the word: ahead[i] q <= i p + r < (ahead[i] + 1) q. These are the bounds of r.
def least_r(ahead, q, p):
    return max([ones * q - i * p for i, ones in enumerate(ahead)])


def most_r(ahead, q, p):
    return min([(ones + 1) * q - 1 - i * p for i, ones in enumerate(ahead)])


# The bounds of p at the word's end, for any r from 0 to q - 1: few p are left.
def least_p(ahead, q):
    return max(0, (ahead[-1] - 1) * q // (len(ahead) - 1) + 1)


def most_p(ahead, q):
    return min(q, ((ahead[-1] + 1) * q - 1) // (len(ahead) - 1))


# No q above the word's length needs a look: if any slope p / q fits, then one fits
# that is 0, 1 or the ones between two places by the distance of these places.
def first_shape(word):
    ahead = ones_ahead_of_places(word)
    for q in range(1, len(word) + 1):
        for p in range(least_p(ahead, q), most_p(ahead, q) + 1):
            r = least_r(ahead, q, p)
            if r <= most_r(ahead, q, p):
                return [q, p, r]
    return []


def pieces(word, length):
    return [tuple(word[i:i + length]) for i in range(len(word) - length + 1)]


# For each a, the least b: the first unlike letters from a on are left off, and
# all behind them.
def least_b_of_each_a(word, c):
    least = [0]
    for i in range(len(word) - c - 1, -1, -1):
        if word[i] == word[i + c]:
            least.append(least[-1])
        else:
            least.append(len(word) - c - i)
    least.reverse()
    return least


def first_round(word, most):
    for c in range(1, most + 1):
        least_b = least_b_of_each_a(word, c)
        for a in range(most - c + 1):
            if c + a + least_b[a] <= most:
                return [c, a, least_b[a]]
    return []


# Of each number up to most, how many from 1 to it have no divisor above 1 in common
# with it: each prime takes its share away from all numbers that it divides.
def coprime_counts(most):
    counts = list(range(most + 1))
    for prime in range(2, most + 1):
        if counts[prime] == prime:
            for number in range(prime, most + 1, prime):
                counts[number] = counts[number] - counts[number] // prime
    return counts


# Each even word can be made one letter longer and stay even. As many of length l can
# take either letter as there are slopes p / i in lowest terms, p from 1 to i, i up to
# l + 1 (Mignosi). Summed over each l below n, the slopes with i count n - i + 1 times.
def how_many_even_words(n):
    counts = coprime_counts(n)
    return 1 + sum([(n - i + 1) * counts[i] for i in range(1, n + 1)])


def common_divisor(one, other):
    while other > 0:
        rest = one % other
        one = other
        other = rest
    return one


# Begun at its several places, the line p, q, 0 is every line p, q, r: it comes
# round after q steps. The words are texts, which are put in order far faster.
def words_of_slope(p, q, n):
    steps = "".join([str(step) for step in line_steps(p, q, 0, q)])
    long_enough = steps * (n // q + 2)
    return [long_enough[i:i + n] for i in range(q)]


# The even words are the lines' steps, and as in first_shape q goes up to n alone.
def even_words_in_order(n):
    words = []
    for q in range(1, n + 1):
        for p in range(q + 1):
            if common_divisor(p, q) == 1:
                words.extend(words_of_slope(p, q, n))
    return sorted(set(words))


def turns(word):
    return [word[i:] + word[:i] for i in range(len(word))]


# No two points are at one place: k times the common divisor is at most n.
def distances_around(n, s, k):
    points = sorted([i * s % n for i in range(k)])
    points.append(points[0] + n)
    return [points[i + 1] - points[i] for i in range(k)]


def how_often_each(numbers):
    counts = {}
    for number in numbers:
        counts[number] = counts.get(number, 0) + 1
    return counts


# The i with i p = 1 above a multiple of q. The steps of Euclid's rule keep each rest
# as so many p, less some q; p and q are coprime, so the rest 1 is met.
def times_to_be_one_above(p, q):
    greater = q
    greater_times = 0
    rest = p
    rest_times = 1
    while rest > 1:
        share = greater // rest
        lesser = greater - share * rest
        lesser_times = greater_times - share * rest_times
        greater = rest
        greater_times = rest_times
        rest = lesser
        rest_times = lesser_times
    return rest_times % q


def ew_even(w):
    if outside(len(w), 1, SHORT_WORD_MOST):
        return [OUT_OF_RANGE]
    if not only_zeros_and_ones(w):
        return [WRONG_LETTER]
    if is_even(w):
        return [1]
    return [0]


def ew_line(p, q, r, n):
    if outside(q, 1, LINE_MOST_Q) or outside(n, 1, LINE_MOST_STEPS):
        return [OUT_OF_RANGE]
    if outside(p, 0, q) or outside(r, 0, q - 1):
        return [OUT_OF_RANGE]
    return [n] + line_steps(p, q, r, n)


def ew_shape(w):
    if outside(len(w), 1, SHORT_WORD_MOST):
        return [OUT_OF_RANGE]
    if not only_zeros_and_ones(w):
        return [WRONG_LETTER]
    shape = first_shape(w)
    if len(shape) == 0:
        return [NONE_SUCH]
    return [0] + shape


def ew_kinds(n, m, w):
    if outside(n, 1, LONG_WORD_MOST) or outside(m, 1, n):
        return [OUT_OF_RANGE]
    return [len(set(pieces(w, m)))]


def ew_round(n, m, w):
    if outside(n, 1, LONG_WORD_MOST) or outside(m, 1, n):
        return [OUT_OF_RANGE]
    found = first_round(w, m)
    if len(found) == 0:
        return [NONE_SUCH]
    return [0] + found


def ew_count(n, p):
    if outside(n, 0, COUNT_MOST_LETTERS) or outside(p, 2, COUNT_MOST_P):
        return [OUT_OF_RANGE]
    return [0, how_many_even_words(n) % p]


def ew_kth(n, k):
    if outside(n, 1, KTH_MOST_LETTERS) or k < 0:
        return [OUT_OF_RANGE]
    if k >= how_many_even_words(n):
        return [NONE_SUCH]
    word = even_words_in_order(n)[k]
    return [n] + [int(letter) for letter in word]


def ew_last(w):
    if outside(len(w), 1, LONG_WORD_MOST):
        return [OUT_OF_RANGE]
    return [len(w)] + [turn[-1] for turn in sorted(turns(w))]


def ew_gaps(n, s, k):
    if outside(n, 1, GAPS_MOST_PLACES) or outside(s, 0, n - 1) or outside(k, 1, GAPS_MOST_POINTS):
        return [OUT_OF_RANGE]
    if k * common_divisor(n, s) > n:
        return [OUT_OF_RANGE]
    counts = how_often_each(distances_around(n, s, k))
    answer = [len(counts)]
    for distance in sorted(counts):
        answer.extend([distance, counts[distance]])
    return answer


# The line is cut where it is closest above a whole height without being on it.
def ew_cut(p, q):
    if outside(q, 2, CUT_MOST_Q) or outside(p, 1, q - 1):
        return [OUT_OF_RANGE]
    if common_divisor(p, q) > 1:
        return [NOT_COPRIME]
    return [times_to_be_one_above(p, q)]
