"""All seventeen calls in one list, in many orders, against answers reckoned another way."""

import unittest
from random import Random

from calling import (
    FIVE, MOST, NOT_WORDS, START, STATE, TURNED_OVER, all_words, ask, costs, joined, pair, rest, true_cost, true_fall,
    true_mean, true_rest, turned,
)
from layercosts.layers import answers

NEEDED = [[-1, 0, 0], [2, -1, 0], [0, 1, 0], [-1, 1, 2], [1, 1, -2]]


def is_right(row):
    return 1 <= len(row) <= 12 and set(row) <= {0, 1}


class Model:
    """What each call answers; a call is its number and what it is handed, unwritten."""

    def __init__(self):
        self.three = None

    def answer(self, call, *handed):
        if call == 0:
            self.three = (0, 0, 0)
            return [0]
        if self.three is None:
            return [-11]
        if not all(is_right(row) for row in handed if isinstance(row, list)):
            return [-22]
        return getattr(self, f"answer_{call}")(*handed)

    def told(self, steps):
        return [len(steps)] + steps + pair(true_mean(self.three, steps))

    def answer_1(self, *three):
        if not all(-100 <= number <= 100 for number in three):
            return [-22]
        before, self.three = self.three, three
        return [0, *before]

    def answer_2(self, steps):
        return [0, true_cost(self.three, steps)]

    def answer_3(self, steps):
        return [0] + pair(true_mean(self.three, steps))

    def answer_4(self):
        k = self.answer_6()[1]
        return [k] + pair(true_mean(self.three, FIVE[k]))

    def answer_5(self, k):
        return self.told(FIVE[k]) if k <= 4 else [-2]

    def answer_6(self):
        means = [true_mean(self.three, steps) for steps in FIVE]
        tied = [k for k in range(5) if means[k] == min(means)]
        return [len(tied)] + tied

    def answer_7(self, n):
        if not 1 <= n <= 6:
            return [-22]
        return self.told(min(all_words(n), key=lambda steps: (true_cost(self.three, steps), steps)))

    def answer_8(self, steps):
        return [int(true_mean(self.three, steps) <= min(true_mean(self.three, other) for other in FIVE))]

    def answer_9(self, steps, other):
        more = true_mean(self.three, steps) - true_mean(self.three, other)
        return [1 if more < 0 else 2 if more > 0 else 0]

    def answer_10(self, step, steps):
        if step >= len(steps):
            return [-2]
        return [0, true_cost(self.three, turned(steps, step)) - true_cost(self.three, steps)]

    def answer_11(self, steps):
        return list(true_fall(self.three, steps) or [-33])

    def answer_12(self, steps):
        resting = true_rest(self.three, steps)
        return [len(resting)] + resting + [true_cost(self.three, resting)]

    def answer_13(self, steps, other):
        if len(steps + other) > 12:
            return [-22]
        return [0, true_cost(self.three, steps + other), true_cost(self.three, steps) + true_cost(self.three, other)]

    def answer_14(self, k):
        return [0] + NEEDED[k] if k <= 4 else [-2]

    def answer_15(self):
        a, b, d = self.three
        self.three = (-a, b, -d)
        return [0]

    def answer_16(self):
        return [0, *self.three]


def some_row(source):
    if source.random() < 0.1:
        return source.choice(NOT_WORDS)
    return [source.randrange(2) for step in range(source.randint(1, 12))]


def some_short_row(source):
    return some_row(source)[:source.randint(4, 13)]


def some_costs(source):
    reach = source.choice([1, 3, 100, 101, 2 ** 31 - 1] + [100] * 6)
    return [source.randint(-reach, reach) for apart in range(3)]


def some_number(source, most):
    return source.choice([MOST, 2 ** 31, 60]) if source.random() < 0.1 else source.randint(0, most)


def some_call(source):
    call = source.choice([0] + list(range(1, 17)) * 4)
    if call in (2, 3, 8, 11, 12):
        return (call, some_row(source))
    if call in (9, 13):
        return (call, some_short_row(source), some_short_row(source))
    if call in (5, 14):
        return (call, some_number(source, 5))
    if call == 1:
        return (call, *some_costs(source))
    if call == 7:
        return (call, some_number(source, 7))
    if call == 10:
        return (call, some_number(source, 12), some_row(source))
    return (call,)


def written(call):
    """The call as it stands in a list: its number, its whole numbers, each row behind its length."""
    row_by_row = [[len(part), *part] if isinstance(part, list) else [part] for part in call]
    return [number for part in row_by_row for number in part]


class OrdersTest(unittest.TestCase):
    def test_many_lists_of_two_hundred_calls(self):
        seen = set()
        for seed in range(60):
            source = Random(seed)
            calls = [some_call(source) for place in range(200)]
            model = Model()
            expected = [model.answer(*call) for call in calls]
            self.assertEqual(ask(*map(written, calls)), expected, seed)
            seen |= {(call[0], min(answer[0], 0)) for call, answer in zip(calls, expected)}
        refused = {(1, -22), (5, -2), (7, -22), (14, -2), (10, -2), (11, -33)} | {(call, -11) for call in range(1, 17)}
        refused |= {(call, -22) for call in (2, 3, 8, 9, 10, 11, 12, 13)}
        self.assertEqual(seen, refused | {(call, 0) for call in range(17)})

    def test_each_call_behind_each_other(self):
        one_each = [
            (0,), (1, 3, -2, 1), (2, [1, 1, 0]), (3, [1, 0, 0, 0]), (4,), (5, 3), (6,), (7, 4), (8, [1, 0]),
            (9, [1], [1, 0]), (10, 2, [1, 1, 1]), (11, [1, 1, 1, 1]), (12, [1] * 5), (13, [1, 1], [0]), (14, 2), (15,),
            (16,),
        ]
        for call in one_each:
            for other in one_each:
                calls = [(0,), (1, 1, 10, 100), call, other, (16,)]
                model = Model()
                self.assertEqual(ask(*map(written, calls)), [model.answer(*handed) for handed in calls], calls)

    def test_two_hundred_rests_of_twelve_steps_at_the_ends_of_the_costs(self):
        words = all_words(12)[::20][:196]
        for three in [(-100, -100, -100), (100, 100, 100), (100, -100, 100), (-100, 100, -100), (100, 100, -100)]:
            told = ask(START, costs(*three), *[rest(steps) for steps in words], TURNED_OVER, STATE)
            self.assertEqual(len(told), 200)
            for steps, answer in zip(words, told[2:-2]):
                resting = true_rest(three, steps)
                self.assertEqual(answer, [12] + resting + [true_cost(three, resting)])
            self.assertEqual(told[-2:], [[0], [0, -three[0], three[1], -three[2]]])

    def test_the_longest_list(self):
        longest = joined([MOST] * 60, [MOST] * 60)
        calls = [number for call in [longest] * 200 for number in call]
        self.assertEqual(len(calls), 24600)
        self.assertEqual(answers(calls), [1, -11] * 200)
        self.assertEqual(ask(START, *[longest] * 198, STATE), [[0]] + [[-22]] * 198 + [[0, 0, 0, 0]])


if __name__ == "__main__":
    unittest.main()
