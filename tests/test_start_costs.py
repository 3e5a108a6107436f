import unittest

from calling import (
    LEAST, MOST, SOME_COSTS, START, STATE, TIES, TURNED_OVER, ask, ask_with, best, cheaper, cost, costs, fall, good,
    joined, mean, needs, rest, turn, word,
)

TELLING = [
    cost([1, 0]), mean([1]), LEAST, word(2), TIES, best(5), good([1, 1, 0]), cheaper([1], [1, 0]), turn(1, [1, 1, 0]),
    fall([1, 1, 1]), rest([0] * 12), joined([1, 1], [0]), needs(3), STATE,
]

WRONG = {
    -22: [
        costs(7, 8, 101), costs(-101, 8, 9), costs(2 ** 31 - 1, -2 ** 31, 0), cost([]), cost([2]), mean([0] * 13),
        good([MOST]), best(0), best(7), cheaper([], [1]), cheaper([1], [2]), turn(0, []), turn(MOST, [2]),
        fall([0] * 13), rest([MOST] * 60), joined([], [1]), joined([1] * 6, [0] * 7),
    ],
    -2: [word(5), word(MOST), turn(3, [1, 1, 0]), turn(MOST, [1]), needs(5), needs(MOST)],
    -33: [fall([1]), fall([1, 1, 1, 0, 0, 0])],
}


class StartTest(unittest.TestCase):
    def test_start_answers_0_each_time(self):
        self.assertEqual(ask(START, START, START), [[0], [0], [0]])

    def test_costs_are_0_behind_a_start(self):
        self.assertEqual(ask(START, costs(1, 2, 3))[1], [0, 0, 0, 0])
        self.assertEqual(ask(START, cost([1]), LEAST), [[0], [0, 0], [0, 0, 1]])

    def test_a_second_start_sets_the_costs_to_0_again(self):
        told = ask(START, costs(4, 5, 6), cost([1]), START, cost([1]), LEAST, costs(1, 1, 1))
        self.assertEqual(told[2:], [[0, 15], [0], [0, 0], [0, 0, 1], [0, 0, 0, 0]])

    def test_before_a_start_every_call_is_refused(self):
        calls = TELLING + [costs(1, 2, 3), TURNED_OVER]
        for call in calls:
            self.assertEqual(ask(call), [[-11]], call)
        self.assertEqual(ask(*calls, START, STATE), [[-11]] * len(calls) + [[0], [0, 0, 0, 0]])

    def test_before_a_start_wrong_calls_are_refused_for_that(self):
        for calls in WRONG.values():
            self.assertEqual(ask(*calls), [[-11]] * len(calls))

    def test_calls_before_a_start_change_nothing(self):
        self.assertEqual(ask(costs(1, 2, 3), START, cost([1]), costs(4, 5, 6)), [[-11], [0], [0, 0], [0, 0, 0, 0]])


class CostsTest(unittest.TestCase):
    def test_costs_tell_what_they_were(self):
        told = ask(START, costs(1, -2, 3), costs(-4, 5, -6), costs(-4, 5, -6), costs(0, 0, 0))
        self.assertEqual(told, [[0], [0, 0, 0, 0], [0, 1, -2, 3], [0, -4, 5, -6], [0, -4, 5, -6]])

    def test_the_ends_of_what_costs_may_be(self):
        for three in [(100, 100, 100), (-100, -100, -100), (100, -100, 0), (0, 100, -100), (-100, 0, 100)]:
            self.assertEqual(ask(START, costs(*three), costs(0, 0, 0))[1:], [[0, 0, 0, 0], [0] + list(three)])

    def test_costs_beyond_the_ends_are_refused_each_at_each_place(self):
        for wrong in [101, -101, 1000, -2 ** 31, 2 ** 31 - 1]:
            for place in range(3):
                three = [1, 2, 3]
                three[place] = wrong
                self.assertEqual(ask(START, costs(*three)), [[0], [-22]], three)
            self.assertEqual(ask(START, costs(wrong, wrong, wrong)), [[0], [-22]])

    def test_refused_calls_change_nothing(self):
        for refusal, calls in WRONG.items():
            for call in calls:
                told = ask_with((1, 10, 100), call, STATE, cost([1]), costs(0, 0, 0))
                self.assertEqual(told, [[refusal], [0, 1, 10, 100], [0, 111], [0, 1, 10, 100]], call)

    def test_calls_that_only_tell_change_nothing(self):
        for call in TELLING:
            told = ask_with((1, 10, 100), call, STATE, call, costs(0, 0, 0))
            self.assertEqual(told[1], [0, 1, 10, 100], call)
            self.assertEqual(told[0], told[2], call)
            self.assertEqual(told[3], [0, 1, 10, 100], call)


class StateTest(unittest.TestCase):
    def test_behind_a_start_all_are_0(self):
        self.assertEqual(ask(START, STATE), [[0], [0, 0, 0, 0]])

    def test_it_tells_the_costs(self):
        for three in SOME_COSTS:
            self.assertEqual(ask_with(three, STATE, STATE), [[0] + list(three)] * 2)

    def test_it_tells_what_costs_turned_over_and_start_left(self):
        told = ask(START, costs(1, -2, 3), STATE, TURNED_OVER, STATE, costs(4, 5, -6), STATE, START, STATE)
        self.assertEqual(told, [
            [0], [0, 0, 0, 0], [0, 1, -2, 3], [0], [0, -1, -2, -3], [0, -1, -2, -3], [0, 4, 5, -6], [0], [0, 0, 0, 0],
        ])
        self.assertEqual(ask(START, TURNED_OVER, STATE), [[0], [0], [0, 0, 0, 0]])


class TurnedOverTest(unittest.TestCase):
    def test_one_and_three_apart_alone(self):
        for a, b, d in SOME_COSTS:
            self.assertEqual(ask_with((a, b, d), TURNED_OVER, STATE), [[0], [0, -a, b, -d]])

    def test_twice_leaves_them_as_they_were(self):
        for three in SOME_COSTS:
            told = ask_with(three, TURNED_OVER, TURNED_OVER, STATE)
            self.assertEqual(told, [[0], [0], [0] + list(three)])

    def test_the_ends_of_what_costs_may_be(self):
        told = ask_with((100, 100, -100), TURNED_OVER, STATE, costs(-100, -100, -100), TURNED_OVER, STATE)
        self.assertEqual(told, [[0], [0, -100, 100, 100], [0, -100, 100, 100], [0], [0, 100, -100, 100]])

    def test_what_comes_behind_it_goes_by_the_new_costs(self):
        told = ask_with((-1, 0, 0), LEAST, TURNED_OVER, LEAST, cost([1, 0]), fall([1, 1]), costs(0, 0, 0))
        self.assertEqual(told, [[0, -1, 1], [0], [1, -1, 1], [0, -2], [0, -2], [0, 1, 0, 0]])

    def test_a_start_behind_it_sets_the_costs_to_0(self):
        self.assertEqual(ask_with((1, 2, 3), TURNED_OVER, START, STATE), [[0], [0], [0, 0, 0, 0]])


if __name__ == "__main__":
    unittest.main()
