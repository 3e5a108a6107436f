"""What holds of the costs, of the five and of words at rest, as far as the calls show it."""

import unittest
from fractions import Fraction

from calling import (
    FIVE, LEAST, SOME_COSTS, START, STATE, TIES, TURNED_OVER, all_words, ask, ask_many, ask_with, cheaper, cost, costs,
    fall, good, mean, needs, rest,
)

EVEN_WORDS = all_words(2) + all_words(4) + all_words(6) + all_words(8)[::5] + all_words(12)[3::97]


class HoldsTest(unittest.TestCase):
    def test_a_no_word_costs_less_in_the_mean_than_the_least_of_the_five(self):
        words = [word for steps in range(1, 13) for word in all_words(steps)]
        for three in [(7, -3, 5), (-1, 1, 2), (100, 100, -100)]:
            least = ask_with(three, LEAST)[0]
            told = ask_many(three, [mean(word) for word in words])
            self.assertEqual(min(Fraction(above, below) for first, above, below in told), Fraction(*least[1:]))
            self.assertNotIn([1], ask_many(three, [cheaper(word, FIVE[least[0]]) for word in words]))

    def test_a_by_many_costs(self):
        words = all_words(5) + all_words(7) + all_words(12)[7::101]
        for three in SOME_COSTS:
            least = FIVE[ask_with(three, LEAST)[0][0]]
            told = ask_many(three, [cheaper(word, least) for word in words])
            goods = ask_many(three, [good(word) for word in words])
            self.assertEqual([answer == [0] for answer in told], [answer == [1] for answer in goods])
            self.assertNotIn([1], told)

    def test_b_none_of_the_five_can_be_spared(self):
        for k in range(5):
            three = ask(START, needs(k))[1][1:]
            others = [FIVE[other] for other in range(5) if other != k]
            told = ask_with(three, TIES, *[cheaper(FIVE[k], other) for other in others])
            self.assertEqual(told, [[1, k]] + [[1]] * 4)

    def test_c_opposite_backwards_begun_elsewhere_and_twice(self):
        for three in SOME_COSTS:
            for word in all_words(6) + all_words(5) + all_words(3) + all_words(1):
                turned = [1 - step for step in word]
                same = [word, turned, word[::-1], word[1:] + word[:1], word[4:] + word[:4]]
                told = ask_with(three, *[cost(other) for other in same], cost(word + word))
                self.assertEqual(told[:5], [told[0]] * 5)
                self.assertEqual(told[5], [0, 2 * told[0][1]])

    def test_d_costs_one_and_three_apart_turned(self):
        for three in SOME_COSTS:
            others = [[1 - step if place % 2 else step for place, step in enumerate(word)] for word in EVEN_WORDS]
            before = ask_many(three, [cost(word) for word in others])
            for place in range(0, len(EVEN_WORDS), 100):
                portion = EVEN_WORDS[place:place + 100]
                told = ask(START, costs(*three), TURNED_OVER, *[cost(word) for word in portion])[3:]
                self.assertEqual(told, before[place:place + 100], three)

    def test_d_so_up_and_up_down_change_places(self):
        for three in SOME_COSTS:
            told = ask_with(three, cost([1, 1]), cost([1, 0]), TURNED_OVER, cost([1, 0]), cost([1, 1]))
            self.assertEqual(told[:2], told[3:])

    def test_e_it_comes_to_rest_no_dearer(self):
        words = all_words(1) + all_words(2) + all_words(3) + all_words(6) + all_words(9)[::7] + all_words(12)[1::89]
        for three in SOME_COSTS:
            for word in words:
                before, came = ask_with(three, cost(word), rest(word))
                resting = came[1:-1]
                self.assertEqual(came[0], len(word))
                self.assertEqual(len(resting), len(word))
                self.assertLessEqual(came[-1], before[1])
                told = ask_with(three, cost(resting), fall(resting), rest(resting), STATE)
                self.assertEqual(told, [[0, came[-1]], [-33], came, [0] + list(three)])

    def test_e_rest_goes_as_fall_tells(self):
        for three in [(1, 10, 100), (-100, -100, -100), (7, -3, 5), (1, 1, 1)]:
            for word in all_words(6) + all_words(12)[2::311]:
                going = list(word)
                told = ask_with(three, fall(going))[0]
                while told != [-33]:
                    going[told[0]] = 1 - going[told[0]]
                    self.assertEqual(ask_with(three, cost(going)), [[0, told[1]]])
                    told = ask_with(three, fall(going))[0]
                self.assertEqual(ask_with(three, rest(word))[0][1:-1], going)


if __name__ == "__main__":
    unittest.main()
