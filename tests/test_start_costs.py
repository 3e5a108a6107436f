import unittest

from calling import LEAST, MOST, START, TIES, ask, best, cost, costs, good, mean, word


class StartTest(unittest.TestCase):
    def test_start_answers_0_each_time(self):
        self.assertEqual(ask(START, START, START), [[0], [0], [0]])

    def test_costs_are_0_behind_a_start(self):
        self.assertEqual(ask(START, costs(1, 2, 3))[1], [0, 0, 0, 0])
        self.assertEqual(ask(START, cost([1]), LEAST), [[0], [0, 0], [0, 0, 1]])

    def test_a_second_start_sets_the_costs_to_0_again(self):
        told = ask(START, costs(4, 5, 6), cost([1]), START, cost([1]), LEAST, costs(1, 1, 1))
        self.assertEqual(told[2:], [[0, 15], [0], [0, 0], [0, 0, 1], [0, 0, 0, 0]])

    def test_before_a_start_every_call_is_refused(self):
        calls = [costs(1, 2, 3), cost([1]), mean([1]), LEAST, word(0), TIES, best(1), good([1])]
        for call in calls:
            self.assertEqual(ask(call), [[-11]], call)
        self.assertEqual(ask(*calls), [[-11]] * len(calls))

    def test_before_a_start_the_calls_of_later_stages_are_refused_too(self):
        row = [3, 1, 0, 1]
        calls = [[9] + row + row, [10, 1] + row, [11] + row, [12] + row, [13] + row + row, [14, 0], [15], [16]]
        self.assertEqual(ask(*calls, LEAST, START), [[-11]] * 9 + [[0]])

    def test_before_a_start_wrong_calls_are_refused_for_that(self):
        calls = [costs(101, 0, 0), cost([]), mean([2]), word(5), best(0), good([0] * 60)]
        self.assertEqual(ask(*calls), [[-11]] * len(calls))

    def test_calls_before_a_start_change_nothing(self):
        self.assertEqual(ask(costs(1, 2, 3), START, cost([1]), costs(4, 5, 6)), [[-11], [0], [0, 0], [0, 0, 0, 0]])


class CostsTest(unittest.TestCase):
    def test_costs_tell_what_they_were(self):
        told = ask(START, costs(1, -2, 3), costs(-4, 5, -6), costs(-4, 5, -6), costs(0, 0, 0))
        self.assertEqual(told, [[0], [0, 0, 0, 0], [0, 1, -2, 3], [0, -4, 5, -6], [0, -4, 5, -6]])

    def test_the_ends_of_what_costs_may_be(self):
        for three in [(100, 100, 100), (-100, -100, -100), (100, -100, 0), (0, 100, -100), (-100, 0, 100)]:
            self.assertEqual(ask(START, costs(*three), costs(0, 0, 0))[1:], [[0, 0, 0, 0], [0] + list(three)])

    def test_costs_beyond_the_ends_are_refused_each_at_each_place(self):
        for wrong in [101, -101, 1000, -2 ** 31, 2 ** 31 - 1]:
            for place in range(3):
                three = [1, 2, 3]
                three[place] = wrong
                self.assertEqual(ask(START, costs(*three)), [[0], [-22]], three)
            self.assertEqual(ask(START, costs(wrong, wrong, wrong)), [[0], [-22]])

    def test_refused_calls_change_nothing(self):
        wrong = [
            costs(7, 8, 101), costs(-101, 8, 9), cost([]), cost([2]), mean([0] * 13), good([MOST]),
            word(5), word(MOST), best(0), best(7),
        ]
        refusals = [[-22]] * 6 + [[-2]] * 2 + [[-22]] * 2
        told = ask(START, costs(1, 10, 100), *wrong, cost([1]), LEAST, costs(0, 0, 0))
        self.assertEqual(told[2:-3], refusals)
        self.assertEqual(told[-3:], [[0, 111], [3, -103, 1], [0, 1, 10, 100]])

    def test_calls_that_only_tell_change_nothing(self):
        calls = [cost([1, 0]), mean([1]), LEAST, word(2), TIES, best(5), good([1, 1, 0])]
        for call in calls:
            self.assertEqual(ask(START, costs(1, 10, 100), call, costs(0, 0, 0))[3], [0, 1, 10, 100])


if __name__ == "__main__":
    unittest.main()
