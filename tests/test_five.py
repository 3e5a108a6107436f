import unittest
from itertools import product

from calling import (
    FIVE, LEAST, MOST, SOME_COSTS, START, STATE, TIED, TIES, all_words, ask, ask_with, best, costs, good, mean, needs,
    pair, true_mean, word,
)


def least_of(three, words):
    return min(true_mean(three, word) for word in words)


class LeastTest(unittest.TestCase):
    def test_ordinary_costs(self):
        self.assertEqual(ask_with((1, 10, 100), LEAST), [[3, -103, 1]])
        self.assertEqual(ask_with((-1, 0, 0), LEAST), [[0, -1, 1]])
        self.assertEqual(ask_with((2, -1, 0), LEAST), [[1, -3, 1]])
        self.assertEqual(ask_with((0, 1, 0), LEAST), [[2, -1, 1]])
        self.assertEqual(ask_with((-1, 1, 2), LEAST), [[3, -8, 3]])
        self.assertEqual(ask_with((1, 1, -2), LEAST), [[4, -8, 3]])

    def test_costs_of_0(self):
        self.assertEqual(ask_with((0, 0, 0), LEAST), [[0, 0, 1]])

    def test_the_first_of_those_that_cost_as_little(self):
        for three, tied in TIED.items():
            mean_of_it = pair(least_of(three, FIVE))
            self.assertEqual(ask_with(three, LEAST), [[tied[0]] + mean_of_it], three)

    def test_the_ends_of_what_costs_may_be(self):
        self.assertEqual(ask_with((-100, -100, -100), LEAST), [[0, -300, 1]])
        self.assertEqual(ask_with((100, -100, 100), LEAST), [[1, -300, 1]])
        self.assertEqual(ask_with((100, 100, -100), LEAST), [[4, -500, 3]])
        self.assertEqual(ask_with((100, 100, 100), LEAST, TIES), [[1, -100, 1], [3, 1, 2, 3]])

    def test_a_grid_of_costs(self):
        for three in product((-100, -37, -2, 0, 1, 50, 100), repeat=3):
            means = [true_mean(three, word) for word in FIVE]
            tied = [k for k in range(5) if means[k] == min(means)]
            told = ask_with(three, LEAST, TIES)
            self.assertEqual(told, [[tied[0]] + pair(min(means)), [len(tied)] + tied], three)


class TiesTest(unittest.TestCase):
    def test_one_two_three_and_all(self):
        for three, tied in TIED.items():
            self.assertEqual(ask_with(three, TIES), [[len(tied)] + tied], three)


class WordTest(unittest.TestCase):
    def test_the_five(self):
        told = ask_with((1, 10, 100), *[word(k) for k in range(5)])
        self.assertEqual(told, [
            [1, 1, 111, 1],
            [2, 1, 0, -91, 1],
            [4, 1, 1, 0, 0, -10, 1],
            [6, 1, 1, 1, 0, 0, 0, -103, 1],
            [3, 1, 1, 0, 289, 3],
        ])

    def test_costs_of_0(self):
        for k, steps in enumerate(FIVE):
            self.assertEqual(ask_with((0, 0, 0), word(k)), [[len(steps)] + steps + [0, 1]])

    def test_above_4_there_is_none(self):
        for k in [5, 6, 100, 2 ** 31, MOST]:
            self.assertEqual(ask_with((1, 2, 3), word(k)), [[-2]], k)


class BestTest(unittest.TestCase):
    def test_ordinary_costs(self):
        told = ask_with((1, 10, 100), *[best(n) for n in range(1, 7)])
        self.assertEqual(told, [
            [1, 0, 111, 1],
            [2, 0, 1, -91, 1],
            [3, 0, 0, 1, 289, 3],
            [4, 0, 1, 0, 1, -91, 1],
            [5, 0, 0, 0, 1, 1, -329, 5],
            [6, 0, 0, 0, 1, 1, 1, -103, 1],
        ])

    def test_by_costs_of_0_all_are_down(self):
        for n in range(1, 7):
            self.assertEqual(ask_with((0, 0, 0), best(n)), [[n] + [0] * n + [0, 1]])

    def test_against_all_words_in_order(self):
        for three in SOME_COSTS:
            for n in range(1, 7):
                words = all_words(n)
                least = least_of(three, words)
                first = [word for word in words if true_mean(three, word) == least][0]
                self.assertEqual(ask_with(three, best(n)), [[n] + first + pair(least)], (three, n))

    def test_n_that_is_not_1_to_6(self):
        for n in [0, 7, 8, 12, 60, 2 ** 31, MOST]:
            self.assertEqual(ask_with((1, 2, 3), best(n)), [[-22]], n)


class NeedsTest(unittest.TestCase):
    def test_what_the_document_tells(self):
        told = [[0, -1, 0, 0], [0, 2, -1, 0], [0, 0, 1, 0], [0, -1, 1, 2], [0, 1, 1, -2]]
        self.assertEqual(ask(START, *[needs(k) for k in range(5)])[1:], told)
        for three in SOME_COSTS:
            self.assertEqual(ask_with(three, *[needs(k) for k in range(5)]), told)

    def test_by_these_costs_that_one_is_the_only_one(self):
        for k in range(5):
            three = ask(START, needs(k))[1][1:]
            told = ask(START, costs(*three), TIES, LEAST, *[good(steps) for steps in FIVE])[2:]
            self.assertEqual(told[0], [1, k])
            self.assertEqual(told[1][0], k)
            self.assertEqual(told[2:], [[1] if other == k else [0] for other in range(5)])

    def test_they_are_told_and_not_set(self):
        for k in range(6):
            self.assertEqual(ask_with((7, -3, 5), needs(k), STATE)[1], [0, 7, -3, 5])

    def test_above_4_there_is_none(self):
        for k in [5, 6, 100, 2 ** 31, MOST]:
            self.assertEqual(ask_with((1, 2, 3), needs(k)), [[-2]], k)


class WordAndMeanTest(unittest.TestCase):
    def test_what_word_and_mean_tell_is_the_same(self):
        for three in SOME_COSTS:
            for k, steps in enumerate(FIVE):
                told = ask_with(three, word(k), mean(steps))
                self.assertEqual(told[0][-2:], told[1][1:])


if __name__ == "__main__":
    unittest.main()
