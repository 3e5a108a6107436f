"""Builds lists of calls and takes the answers apart; and what words cost, reckoned another way."""

from fractions import Fraction
from itertools import product

from layercosts.layers import answers

FIVE = [[1], [1, 0], [1, 1, 0, 0], [1, 1, 1, 0, 0, 0], [1, 1, 0]]
MOST = 2 ** 32 - 1

START = [0]
LEAST = [4]
TIES = [6]
TURNED_OVER = [15]
STATE = [16]


def row(word):
    return [len(word)] + list(word)


def costs(a, b, d):
    return [1, a, b, d]


def cost(word):
    return [2] + row(word)


def mean(word):
    return [3] + row(word)


def word(k):
    return [5, k]


def best(n):
    return [7, n]


def good(word):
    return [8] + row(word)


def cheaper(word, other):
    return [9] + row(word) + row(other)


def turn(step, word):
    return [10, step] + row(word)


def fall(word):
    return [11] + row(word)


def rest(word):
    return [12] + row(word)


def joined(word, other):
    return [13] + row(word) + row(other)


def needs(k):
    return [14, k]


def ask(*calls):
    """The answers to these calls on one object, each as a list of its own."""
    told = answers([number for call in calls for number in call])
    split = []
    place = 0
    while place < len(told):
        end = place + 1 + told[place]
        split.append(told[place + 1:end])
        place = end
    if place != len(told):
        raise AssertionError("an answer is shorter than its count")
    return split


def ask_with(three, *calls):
    """The answers behind a start and these costs."""
    return ask(START, costs(*three), *calls)[2:]


def in_lists(calls):
    """These calls in portions that one list may hold beside a start and costs."""
    for place in range(0, len(calls), 198):
        yield calls[place:place + 198]


def ask_many(three, calls):
    return [answer for portion in in_lists(calls) for answer in ask_with(three, *portion)]


def true_cost(three, word):
    rows = "".join(map(str, word)) * 4
    total = 0
    for apart, price in zip((1, 2, 3), three):
        pairs = list(zip(rows, rows[apart:]))[:len(word)]
        unlike = sum(one != other for one, other in pairs)
        total += price * (len(word) - 2 * unlike)
    return total


def true_mean(three, word):
    return Fraction(true_cost(three, word), len(word))


def turned(word, step):
    return [1 - value if place == step else value for place, value in enumerate(word)]


def true_fall(three, word):
    """The step that fall tells and what the word costs then, or None."""
    costs_then = [true_cost(three, turned(word, step)) for step in range(len(word))]
    least = min(costs_then)
    if least >= true_cost(three, word):
        return None
    return costs_then.index(least), least


def true_rest(three, word):
    found = true_fall(three, word)
    return word if found is None else true_rest(three, turned(word, found[0]))


def pair(fraction):
    return [fraction.numerator, fraction.denominator]


def all_words(steps):
    return [list(word) for word in product((0, 1), repeat=steps)]


# By the costs of the first five rows just one of the five costs least; then two do, then three, then all.
TIED = {
    (-1, 0, 0): [0], (2, -1, 0): [1], (0, 1, 0): [2], (-1, 1, 2): [3], (1, 1, -2): [4],
    (0, -1, 0): [0, 1], (-3, 2, -1): [0, 2], (-3, 0, 1): [0, 3], (0, 0, -1): [0, 4],
    (3, 2, 1): [1, 2], (0, 0, 1): [1, 3], (3, 0, -1): [1, 4], (-1, 2, 1): [2, 3], (1, 2, -1): [2, 4],
    (-1, -1, 1): [0, 1, 3], (1, -1, -1): [0, 1, 4], (-2, 1, 0): [0, 2, 3],
    (-1, 1, -1): [0, 2, 4], (1, 1, 1): [1, 2, 3], (2, 1, 0): [1, 2, 4],
    (0, 0, 0): [0, 1, 2, 3, 4],
}

SOME_COSTS = list(TIED) + [
    (1, 10, 100), (100, 100, 100), (-100, -100, -100), (100, -100, 100), (-100, 100, -100),
    (7, -3, 5), (-7, 3, -5), (99, -100, 98), (-1, 0, 1), (0, 1, -1), (13, 17, -19),
]

NOT_WORDS = [
    [], [2], [MOST], [0, 1, 2], [2, 1, 0], [1, MOST, 0], [0] * 11 + [2],
    [0] * 13, [1] * 13, [0, 1] * 7, [1] * 60, [0] * 60, [MOST] * 60, [2] * 13,
]
