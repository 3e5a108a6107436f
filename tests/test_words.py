import unittest

from calling import (
    FIVE, NOT_WORDS, SOME_COSTS, all_words, ask_many, ask_with, cost, good, mean, pair, true_cost, true_mean,
)

SHORT_WORDS = [word for steps in range(1, 8) for word in all_words(steps)]


class CostTest(unittest.TestCase):
    def test_the_five(self):
        told = ask_with((1, 10, 100), *[cost(word) for word in FIVE])
        self.assertEqual(told, [[0, 111], [0, -182], [0, -40], [0, -618], [0, 289]])

    def test_each_cost_counts_for_its_own_distance(self):
        word = [1, 1, 0, 1, 0, 0, 0]
        for three, told in [((1, 0, 0), -1), ((0, 1, 0), -1), ((0, 0, 1), -1), ((-5, 0, 0), 5)]:
            self.assertEqual(ask_with(three, cost(word)), [[0, told]])
        word = [1, 0, 0, 0, 1, 1, 0, 0]
        for three, told in [((1, 0, 0), 0), ((0, 1, 0), -4), ((0, 0, 1), 0)]:
            self.assertEqual(ask_with(three, cost(word)), [[0, told]])

    def test_one_step_is_always_like_itself(self):
        self.assertEqual(ask_with((5, 6, -7), cost([0]), cost([1])), [[0, 4], [0, 4]])

    def test_two_steps(self):
        told = ask_with((5, 6, -7), *[cost(word) for word in all_words(2)])
        self.assertEqual(told, [[0, 8], [0, 16], [0, 16], [0, 8]])

    def test_of_three_steps_three_apart_is_the_step_itself(self):
        told = ask_with((0, 0, 9), *[cost(word) for word in all_words(3)])
        self.assertEqual(told, [[0, 27]] * 8)

    def test_twelve_steps(self):
        self.assertEqual(ask_with((1, 10, 100), cost([1] + [0] * 11)), [[0, 888]])
        self.assertEqual(ask_with((1, 10, 100), cost([1] * 12), cost([1, 0] * 6)), [[0, 1332], [0, -1092]])
        self.assertEqual(ask_with((100, 100, 100), cost([0] * 12)), [[0, 3600]])
        self.assertEqual(ask_with((-100, -100, -100), cost([1] * 12)), [[0, -3600]])

    def test_costs_of_0(self):
        self.assertEqual(ask_many((0, 0, 0), [cost(word) for word in SHORT_WORDS]), [[0, 0]] * len(SHORT_WORDS))

    def test_all_short_words(self):
        for three in SOME_COSTS:
            told = ask_many(three, [cost(word) for word in SHORT_WORDS])
            self.assertEqual(told, [[0, true_cost(three, word)] for word in SHORT_WORDS], three)

    def test_what_is_no_word(self):
        for row in NOT_WORDS:
            self.assertEqual(ask_with((1, 2, 3), cost(row)), [[-22]], row)


class MeanTest(unittest.TestCase):
    def test_the_five(self):
        told = ask_with((1, 10, 100), *[mean(word) for word in FIVE])
        self.assertEqual(told, [[0, 111, 1], [0, -91, 1], [0, -10, 1], [0, -103, 1], [0, 289, 3]])

    def test_nothing_in_common(self):
        self.assertEqual(ask_with((1, 1, 1), mean([1, 0, 0, 0, 0])), [[0, 3, 5]])
        self.assertEqual(ask_with((1, 0, 0), mean([1, 1, 1, 0, 0, 0])), [[0, 1, 3]])
        self.assertEqual(ask_with((1, 10, 100), mean([1] + [0] * 11)), [[0, 74, 1]])
        self.assertEqual(ask_with((1, 0, 0), mean([1, 1, 1, 0] + [0] * 8)), [[0, 2, 3]])

    def test_below_0_stands_above(self):
        self.assertEqual(ask_with((1, 0, 0), mean([1, 1, 0])), [[0, -1, 3]])
        self.assertEqual(ask_with((-1, 0, 0), mean([1, 1, 1, 0] + [0] * 8)), [[0, -2, 3]])

    def test_0_is_0_1(self):
        self.assertEqual(ask_with((5, 0, 0), mean([1, 1, 0, 0]), mean([0, 0, 0, 1])), [[0, 0, 1]] * 2)
        self.assertEqual(ask_with((0, 0, 0), mean([1]), mean([1, 0, 0]), mean([1, 0] * 6)), [[0, 0, 1]] * 3)

    def test_all_short_words(self):
        for three in SOME_COSTS:
            told = ask_many(three, [mean(word) for word in SHORT_WORDS])
            self.assertEqual(told, [[0] + pair(true_mean(three, word)) for word in SHORT_WORDS], three)

    def test_what_is_no_word(self):
        for row in NOT_WORDS:
            self.assertEqual(ask_with((1, 2, 3), mean(row)), [[-22]], row)


class GoodTest(unittest.TestCase):
    def test_the_five(self):
        told = ask_with((1, 10, 100), *[good(word) for word in FIVE])
        self.assertEqual(told, [[0], [0], [0], [1], [0]])

    def test_at_a_border_both_are_good_and_what_joins_them_may_be(self):
        told = ask_with((0, -1, 0), *[good(word) for word in FIVE])
        self.assertEqual(told, [[1], [1], [0], [0], [0]])
        told = ask_with((2, 1, 0), good([1, 1, 0, 1, 0]), good([1, 1, 0, 0, 1, 0]), good([1, 1, 1, 0]))
        self.assertEqual(told, [[1], [1], [0]])

    def test_all_are_good_by_costs_of_0(self):
        self.assertEqual(ask_many((0, 0, 0), [good(word) for word in SHORT_WORDS]), [[1]] * len(SHORT_WORDS))

    def test_all_words_up_to_eleven_steps(self):
        words = [word for steps in range(1, 12) for word in all_words(steps)]
        for three in [(1, 1, -2), (-1, 2, 1), (2, 1, 0)]:
            least = min(true_mean(three, word) for word in FIVE)
            told = ask_many(three, [good(word) for word in words])
            self.assertEqual(told, [[1] if true_mean(three, word) <= least else [0] for word in words], three)

    def test_twelve_steps(self):
        told = ask_with((1, 1, -2), good([1, 1, 0] * 4), good([1, 0, 0] * 4), good([1, 0] * 6), good([1] * 12))
        self.assertEqual(told, [[1], [1], [0], [0]])

    def test_what_is_no_word(self):
        for three in [(0, 0, 0), (1, 2, 3)]:
            for row in NOT_WORDS:
                self.assertEqual(ask_with(three, good(row)), [[-22]], row)


if __name__ == "__main__":
    unittest.main()
