import unittest

from calling import (
    LEAST, MOST, START, STATE, TIES, TURNED_OVER, ask, best, cheaper, cost, costs, fall, good, joined, mean, needs,
    rest, turn, word,
)
from layercosts.layers import answers

ALL_CALLS = [
    START, costs(1, 10, 100), cost([1, 1, 0]), mean([1, 1, 0]), LEAST, word(4), TIES, best(3), good([1, 1, 0]),
    cheaper([1, 0], [1, 1, 0]), turn(2, [1, 1, 0]), fall([1, 1, 1]), rest([1, 1, 1]), joined([1], [0]), needs(3),
    TURNED_OVER, STATE,
    costs(101, 0, 0), cost([]), mean([2]), word(5), best(0), good([0] * 13), cheaper([1], []), turn(3, [1, 1, 0]),
    fall([1]), fall([2]), rest([0] * 13), joined([1] * 12, [1]), needs(5),
]


def one_list(calls):
    return [number for call in calls for number in call]


class ListsTest(unittest.TestCase):
    def test_counts_stand_before_the_answers(self):
        self.assertEqual(answers([0]), [1, 0])
        self.assertEqual(answers([4]), [1, -11])
        self.assertEqual(answers([2, 3, 1, 1, 0, 0, 4]), [1, -11, 1, 0, 3, 0, 0, 1])
        self.assertEqual(answers(one_list(ALL_CALLS)), [
            1, 0,
            4, 0, 0, 0, 0,
            2, 0, 289,
            3, 0, 289, 3,
            3, 3, -103, 1,
            6, 3, 1, 1, 0, 289, 3,
            2, 1, 3,
            6, 3, 0, 0, 1, 289, 3,
            1, 0,
            1, 1,
            2, 0, 44,
            2, 0, 289,
            5, 3, 0, 1, 1, 289,
            3, 0, -182, 222,
            4, 0, -1, 1, 2,
            1, 0,
            4, 0, -1, 10, -100,
            1, -22, 1, -22, 1, -22, 1, -2, 1, -22, 1, -22, 1, -22, 1, -2,
            1, -33, 1, -22, 1, -22, 1, -22, 1, -2,
        ])

    def test_numbers_of_a_row_are_not_taken_for_calls(self):
        told = ask(START, costs(1, 2, 3), cost([1, 7, 7, 1]), cost([MOST] * 60), cost([]), good([0]), cost([1]))
        self.assertEqual(told[2:], [[-22], [-22], [-22], [0], [0, 6]])
        told = ask(START, joined([15] * 60, [16] * 13), cheaper([], [15]), turn(15, [0, 0]), joined([], []), STATE)
        self.assertEqual(told[1:], [[-22], [-22], [-2], [-22], [0, 0, 0, 0]])

    def test_two_hundred_calls(self):
        # Each round begins with a start, so each is answered like the first.
        calls = (ALL_CALLS * 7)[:200]
        self.assertEqual(len(calls), 200)
        self.assertEqual(ask(*calls), (ask(*ALL_CALLS) * 7)[:200])

    def test_two_hundred_calls_with_the_longest_rows(self):
        calls = [START] + [cost([1] * 60), mean([0] * 60), good([MOST] * 60)] * 66 + [LEAST]
        self.assertEqual(ask(*calls), [[0]] + [[-22]] * 198 + [[0, 0, 1]])

    def test_two_hundred_costs_each_tell_the_ones_before(self):
        calls = [START] + [costs(n - 100, 0, 100 - n) for n in range(199)]
        told = ask(*calls)
        self.assertEqual(told[2:], [[0, n - 100, 0, 100 - n] for n in range(198)])

    def test_the_list_is_the_same_afterwards(self):
        calls = one_list(ALL_CALLS)
        before = list(calls)
        answers(calls)
        self.assertEqual(calls, before)

    def test_the_same_list_twice_is_answered_the_same(self):
        calls = one_list(ALL_CALLS)
        first = answers(calls)
        kept = list(first)
        first.append(99)
        self.assertEqual(answers(calls), kept)

    def test_nothing_is_kept_from_one_time_to_the_next(self):
        answers(one_list([START, costs(1, 2, 3)]))
        self.assertEqual(ask(LEAST), [[-11]])
        self.assertEqual(ask(START, costs(4, 5, 6)), [[0], [0, 0, 0, 0]])

    def test_answers_are_a_list_of_ints_alone(self):
        told = answers(one_list(ALL_CALLS))
        self.assertIs(type(told), list)
        self.assertEqual({type(number) for number in told}, {int})


if __name__ == "__main__":
    unittest.main()
