import unittest

from calling import (
    MOST, NOT_WORDS, SOME_COSTS, all_words, ask_many, ask_with, best, cost, fall, good, rest, true_cost,
    true_fall, true_rest, turn, turned,
)

SHORT_WORDS = [word for steps in range(1, 8) for word in all_words(steps)]
LONG_WORDS = all_words(12)[5::61] + [[0] * 12, [1] * 12, [0, 1] * 6, [1, 1, 0] * 4, [1] * 6 + [0] * 6]
ENDS = [(100, 100, 100), (-100, -100, -100), (100, -100, 100), (-100, 100, -100), (100, 100, -100), (-100, 100, 100)]


class TurnTest(unittest.TestCase):
    def test_it_costs_more_or_less(self):
        told = ask_with((1, 10, 100), *[turn(step, [1, 1, 0, 0]) for step in range(4)])
        self.assertEqual(told, [[0, 40]] * 4)
        told = ask_with((1, 0, 0), *[turn(step, [1, 1, 1, 1, 0]) for step in range(5)])
        self.assertEqual(told, [[0, 0], [0, -4], [0, -4], [0, 0], [0, 4]])

    def test_costs_below_0(self):
        told = ask_with((-1, 0, 0), *[turn(step, [1, 1, 1, 1, 0]) for step in range(5)])
        self.assertEqual(told, [[0, 0], [0, 4], [0, 4], [0, 0], [0, -4]])

    def test_steps_are_numbered_from_0(self):
        told = ask_with((0, 1, 0), *[turn(step, [1, 1, 1, 1, 0, 0]) for step in range(6)])
        self.assertEqual(told, [[0, 0], [0, 0], [0, 0], [0, 0], [0, 4], [0, 4]])

    def test_costs_of_0(self):
        calls = [turn(step, word) for word in SHORT_WORDS for step in range(len(word))]
        self.assertEqual(ask_many((0, 0, 0), calls), [[0, 0]] * len(calls))

    def test_one_step_is_still_like_itself(self):
        self.assertEqual(ask_with((5, 6, -7), turn(0, [0]), turn(0, [1])), [[0, 0], [0, 0]])

    def test_two_steps(self):
        told = ask_with((1, 10, 100), turn(0, [1, 0]), turn(1, [1, 0]), turn(0, [1, 1]), turn(1, [0, 0]))
        self.assertEqual(told, [[0, 404], [0, 404], [0, -404], [0, -404]])

    def test_three_steps(self):
        told = ask_with((1, 10, 100), *[turn(step, [1, 1, 0]) for step in range(3)], turn(1, [0, 0, 0]))
        self.assertEqual(told, [[0, 0], [0, 0], [0, 44], [0, -44]])

    def test_twelve_steps(self):
        told = ask_with((100, 100, 100), turn(0, [1] * 12), turn(11, [1] * 12), turn(11, [1] * 11 + [0]))
        self.assertEqual(told, [[0, -1200], [0, -1200], [0, 1200]])

    def test_all_short_words_and_some_long_ones(self):
        for three in SOME_COSTS:
            asked = [(step, word) for word in SHORT_WORDS[:62] + LONG_WORDS for step in range(len(word))]
            told = ask_many(three, [turn(step, word) for step, word in asked])
            more = [[0, true_cost(three, turned(word, step)) - true_cost(three, word)] for step, word in asked]
            self.assertEqual(told, more, three)

    def test_a_step_that_the_word_has_not(self):
        for word in [[1], [1, 0], [1, 1, 0], [1] * 12]:
            for step in [len(word), len(word) + 1, 12, 60, 2 ** 31, MOST]:
                self.assertEqual(ask_with((1, 2, 3), turn(step, word)), [[-2]], (step, word))

    def test_what_is_no_word_comes_first(self):
        for row in NOT_WORDS:
            for step in [0, 12, 60, MOST]:
                self.assertEqual(ask_with((1, 2, 3), turn(step, row)), [[-22]], (step, row))


class FallTest(unittest.TestCase):
    def test_the_step_by_whose_turning_it_costs_least(self):
        # Turned at step 0 this word costs less too, but not least.
        told = ask_with((1, 10, 100), turn(0, [0, 0, 0, 0, 1, 0]), fall([0, 0, 0, 0, 1, 0]))
        self.assertEqual(told, [[0, -404], [3, -218]])
        self.assertEqual(ask_with((7, -3, 5), fall([0, 0, 0, 1, 1])), [[1, -19]])
        self.assertEqual(ask_with((-1, 0, 0), fall([1, 1, 1, 0, 1])), [[3, -5]])

    def test_of_several_alike_the_first(self):
        self.assertEqual(ask_with((1, 0, 0), fall([1] * 6)), [[0, 2]])
        self.assertEqual(ask_with((1, 0, 0), fall([0, 1, 1, 1, 1, 1])), [[2, -2]])
        self.assertEqual(ask_with((1, 0, 0), fall([0, 1, 0, 1, 1, 1])), [[4, -6]])
        self.assertEqual(ask_with((100, 100, 100), fall([0, 0, 0, 1, 0, 0])), [[1, -200]])

    def test_at_rest(self):
        self.assertEqual(ask_with((1, 0, 0), fall([0, 1, 0, 1, 0, 1])), [[-33]])
        self.assertEqual(ask_with((-1, 0, 0), fall([1] * 12), fall([0])), [[-33], [-33]])

    def test_to_cost_as_much_is_not_to_cost_less(self):
        told = ask_with((-1, 0, 0), turn(0, [1, 1, 0, 0]), fall([1, 1, 0, 0]))
        self.assertEqual(told, [[0, 0], [-33]])

    def test_at_rest_though_not_the_cheapest(self):
        told = ask_with((1, 10, 100), fall([0, 0, 1, 1]), good([0, 0, 1, 1]), cost([0, 0, 1, 1]), cost([0, 1, 0, 1]))
        self.assertEqual(told, [[-33], [0], [0, -40], [0, -364]])

    def test_costs_of_0(self):
        self.assertEqual(ask_many((0, 0, 0), [fall(word) for word in SHORT_WORDS]), [[-33]] * len(SHORT_WORDS))

    def test_one_step(self):
        for three in SOME_COSTS:
            self.assertEqual(ask_with(three, fall([0]), fall([1])), [[-33], [-33]])

    def test_two_steps(self):
        told = ask_with((1, 10, 100), *[fall(word) for word in all_words(2)])
        self.assertEqual(told, [[0, -182], [-33], [-33], [0, -182]])
        told = ask_with((-1, 0, 0), *[fall(word) for word in all_words(2)])
        self.assertEqual(told, [[-33], [0, -2], [0, -2], [-33]])

    def test_three_steps(self):
        told = ask_with((1, 10, 100), *[fall(word) for word in all_words(3)])
        self.assertEqual(told, [[0, 289]] + [[-33]] * 6 + [[0, 289]])

    def test_twelve_steps(self):
        told = ask_with((100, 100, 100), fall([0] * 12), fall([1] * 12))
        self.assertEqual(told, [[0, 2400], [0, 2400]])
        self.assertEqual(ask_with((-100, 0, 0), fall([1] * 11 + [0])), [[11, -1200]])

    def test_all_short_words_and_some_long_ones(self):
        for three in SOME_COSTS:
            words = SHORT_WORDS + LONG_WORDS
            told = ask_many(three, [fall(word) for word in words])
            falls = [true_fall(three, word) for word in words]
            self.assertEqual(told, [[-33] if found is None else list(found) for found in falls], three)

    def test_what_is_no_word(self):
        for three in [(0, 0, 0), (1, 2, 3)]:
            for row in NOT_WORDS:
                self.assertEqual(ask_with(three, fall(row)), [[-22]], row)


class RestTest(unittest.TestCase):
    def test_step_by_step(self):
        self.assertEqual(ask_with((1, 0, 0), rest([1] * 6)), [[6, 0, 1, 0, 1, 0, 1, -6]])
        self.assertEqual(ask_with((-1, 0, 0), rest([1, 0] * 3)), [[6, 0, 0, 0, 0, 0, 0, -6]])

    def test_what_is_at_rest_stays(self):
        told = ask_with((1, 10, 100), rest([0, 0, 1, 1]), rest([1, 0]), rest([1, 1, 1, 0, 0, 0]))
        self.assertEqual(told, [[4, 0, 0, 1, 1, -40], [2, 1, 0, -182], [6, 1, 1, 1, 0, 0, 0, -618]])

    def test_it_may_rest_where_it_is_not_the_cheapest(self):
        told = ask_with((-1, 0, 0), rest([1, 1, 0, 0]), best(4), good([1, 1, 0, 0]))
        self.assertEqual(told, [[4, 1, 1, 0, 0, 0], [4, 0, 0, 0, 0, -1, 1], [0]])

    def test_costs_of_0(self):
        for word in SHORT_WORDS[:30] + LONG_WORDS:
            self.assertEqual(ask_with((0, 0, 0), rest(word)), [[len(word)] + word + [0]])

    def test_one_two_and_three_steps(self):
        told = ask_with((1, 10, 100), rest([0]), rest([1]), rest([0, 0]), rest([1, 1]), rest([0] * 3), rest([1] * 3))
        self.assertEqual(told, [
            [1, 0, 111], [1, 1, 111], [2, 1, 0, -182], [2, 0, 1, -182], [3, 1, 0, 0, 289], [3, 0, 1, 1, 289],
        ])

    def test_twelve_steps(self):
        self.assertEqual(ask_with((100, 0, 0), rest([0] * 12)), [[12] + [1, 0] * 6 + [-1200]])
        self.assertEqual(ask_with((-100, -100, -100), rest([1] * 11 + [0])), [[12] + [1] * 12 + [-3600]])

    def test_at_a_border_of_two_of_the_five(self):
        told = ask_with((0, -1, 0), rest([1] * 4), rest([1, 0] * 2), rest([1, 1, 1, 0]), rest([0, 1, 1, 1]))
        self.assertEqual(told, [[4, 1, 1, 1, 1, -4], [4, 1, 0, 1, 0, -4], [4, 1, 0, 1, 0, -4], [4, 1, 1, 1, 1, -4]])

    def test_all_short_words_and_some_long_ones(self):
        for three in SOME_COSTS:
            words = SHORT_WORDS + LONG_WORDS
            told = ask_many(three, [rest(word) for word in words])
            resting = [true_rest(three, word) for word in words]
            self.assertEqual(told, [[len(word)] + word + [true_cost(three, word)] for word in resting], three)

    def test_all_words_of_twelve_steps_come_to_rest_no_dearer(self):
        words = all_words(12)
        for three in ENDS:
            came = [answer[1:-1] for answer in ask_many(three, [rest(word) for word in words])]
            self.assertEqual({len(word) for word in came}, {12})
            self.assertEqual(ask_many(three, [fall(word) for word in came]), [[-33]] * len(words), three)
            for word, other in zip(words, came):
                self.assertLessEqual(true_cost(three, other), true_cost(three, word))

    def test_what_is_no_word(self):
        for three in [(0, 0, 0), (1, 2, 3)]:
            for row in NOT_WORDS:
                self.assertEqual(ask_with(three, rest(row)), [[-22]], row)


if __name__ == "__main__":
    unittest.main()
