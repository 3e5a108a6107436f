import unittest
from itertools import product

from calling import (
    FIVE, NOT_WORDS, SOME_COSTS, TIED, all_words, ask_many, ask_with, cheaper, cost, joined, true_cost, true_mean,
)

SHORT_WORDS = [word for steps in range(1, 5) for word in all_words(steps)]
PAIRS = list(product(SHORT_WORDS + [[1] * 12, [1, 1, 0] * 4, [1, 0] * 6], repeat=2))


class CheaperTest(unittest.TestCase):
    def test_the_first_the_second_or_neither(self):
        told = ask_with((1, 0, 0), cheaper([1, 0], [1, 1]), cheaper([1, 1], [1, 0]), cheaper([1, 0], [0, 1]))
        self.assertEqual(told, [[1], [2], [0]])

    def test_it_compares_in_the_mean(self):
        # The longer word costs 4, the shorter one 1, but in the mean 1/3 and 1.
        long_word = [1, 1, 1, 1, 0, 0, 0, 1, 1, 1, 0, 0]
        told = ask_with((1, 0, 0), cost(long_word), cost([1]), cheaper(long_word, [1]), cheaper([1], long_word))
        self.assertEqual(told, [[0, 4], [0, 1], [1], [2]])
        told = ask_with((-1, 0, 0), cheaper([1], [1] * 12), cheaper([1, 0, 0, 0, 0, 0], [1]), cheaper([1], [1, 0, 0]))
        self.assertEqual(told, [[0], [2], [1]])

    def test_fractions_that_lie_close(self):
        # -1/3 and -1/7 are both -1 for all steps together, and both -1 if rounded down.
        seven = [1, 0, 0, 0, 1, 1, 0]
        told = ask_with((1, 0, 0), cost([1, 1, 0]), cost(seven), cheaper([1, 1, 0], seven), cheaper(seven, [1, 1, 0]))
        self.assertEqual(told, [[0, -1], [0, -1], [1], [2]])

    def test_words_of_different_lengths_may_cost_as_little(self):
        calls = [cheaper([1, 0], [1, 0] * 6), cheaper([1, 1, 0] * 4, [0, 1, 1]), cheaper([1], [0] * 12)]
        self.assertEqual(ask_with((7, -3, 5), *calls), [[0], [0], [0]])

    def test_costs_of_0(self):
        self.assertEqual(ask_many((0, 0, 0), [cheaper(*two) for two in PAIRS]), [[0]] * len(PAIRS))

    def test_at_borders_two_of_the_five_cost_as_little(self):
        for three, tied in TIED.items():
            for k, other in product(range(5), repeat=2):
                if k in tied:
                    told = ask_with(three, cheaper(FIVE[k], FIVE[other]), cheaper(FIVE[other], FIVE[k]))
                    self.assertEqual(told, [[0], [0]] if other in tied else [[1], [2]], (three, k, other))

    def test_many_pairs(self):
        for three in SOME_COSTS:
            told = ask_many(three, [cheaper(*two) for two in PAIRS])
            means = [(true_mean(three, first), true_mean(three, second)) for first, second in PAIRS]
            self.assertEqual(told, [[1] if a < b else [2] if b < a else [0] for a, b in means], three)

    def test_what_is_no_word_first_second_or_both(self):
        for row in NOT_WORDS:
            told = ask_with((1, 2, 3), cheaper(row, [1, 0]), cheaper([1, 0], row), cheaper(row, row), cheaper([1], [0]))
            self.assertEqual(told, [[-22], [-22], [-22], [0]], row)


class JoinedTest(unittest.TestCase):
    def test_as_one_and_each_by_itself(self):
        told = ask_with((1, 10, 100), joined([1, 1, 0], [1, 1, 0]), joined([1], [0]), joined([1, 1], [0, 0]))
        self.assertEqual(told, [[0, 578, 578], [0, -182, 222], [0, -40, 444]])

    def test_as_one_it_only_begins_elsewhere_if_the_second_comes_first(self):
        told = ask_with((1, 10, 100), joined([1, 1, 0], [1, 0, 0]), joined([1, 0, 0], [1, 1, 0]))
        self.assertEqual(told, [[0, 178, 578]] * 2)
        told = ask_with((1, 10, 100), joined([0, 1], [1, 0, 0]), joined([1, 0, 0], [0, 1]))
        self.assertEqual(told, [[0, -329, 107]] * 2)

    def test_costs_below_0(self):
        self.assertEqual(ask_with((-1, 0, 0), joined([1, 1], [0]), joined([1], [1, 1])), [[0, 1, -3], [0, -3, -3]])

    def test_costs_of_0(self):
        for first, second in product(SHORT_WORDS, repeat=2):
            self.assertEqual(ask_with((0, 0, 0), joined(first, second)), [[0, 0, 0]])

    def test_many_pairs(self):
        pairs = list(product(SHORT_WORDS, repeat=2)) + [([1, 0, 1, 1, 0, 0, 0], word) for word in all_words(5)]
        for three in SOME_COSTS:
            told = ask_many(three, [joined(*two) for two in pairs])
            costs = [
                [0, true_cost(three, first + second), true_cost(three, first) + true_cost(three, second)]
                for first, second in pairs
            ]
            self.assertEqual(told, costs, three)

    def test_twelve_steps_as_one_are_a_word(self):
        for steps in range(1, 12):
            told = ask_with((100, 100, 100), joined([1] * steps, [1] * (12 - steps)))
            self.assertEqual(told, [[0, 3600, 3600]])

    def test_more_than_twelve_as_one_are_none(self):
        for first, second in [(1, 12), (12, 1), (6, 7), (7, 6), (12, 12), (2, 11), (11, 2)]:
            self.assertEqual(ask_with((1, 2, 3), joined([1] * first, [0] * second)), [[-22]], (first, second))

    def test_what_is_no_word_first_second_or_both(self):
        for row in NOT_WORDS:
            told = ask_with((1, 2, 3), joined(row, [1, 0]), joined([1, 0], row), joined(row, row), joined([1], [0]))
            self.assertEqual(told, [[-22], [-22], [-22], [0, -4, 12]], row)

    def test_no_step_beside_a_right_word_is_refused(self):
        for word in [[1], [1, 0], [1] * 12]:
            self.assertEqual(ask_with((1, 2, 3), joined([], word), joined(word, [])), [[-22], [-22]])


if __name__ == "__main__":
    unittest.main()
