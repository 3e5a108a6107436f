"""The calls on one object: how they are read from one list, and what each answers."""

from layercosts.five import FIVE, is_good, least_mean, least_of_five, ties_of_five
from layercosts.words import best_word, is_word, word_cost, word_mean

START = 0
COSTS = 1
COST = 2
MEAN = 3
LEAST = 4
WORD = 5
TIES = 6
BEST = 7
GOOD = 8

# How many whole numbers, then how many rows, stand behind each call's number. The calls behind
# good are here only to be read over: before a start they too are answered by -11.
SHAPES = (
    (0, 0), (3, 0), (0, 1), (0, 1), (0, 0), (1, 0), (0, 0), (1, 0), (0, 1),
    (0, 2), (1, 1), (0, 1), (0, 1), (0, 2), (1, 0), (0, 0), (0, 0),
)

NOT_STARTED = -11
NOT_RIGHT = -22
NONE_SUCH = -2

MOST_COST = 100
MOST_BEST_STEPS = 6


def are_costs(numbers):
    """Tell whether each of these is from -100 to 100."""
    for number in numbers:
        if number < -MOST_COST or number > MOST_COST:
            return False
    return True


class Layers:
    """The costs, and what is answered by them; each answer is a list of numbers."""

    def __init__(self):
        self.started = False
        self.costs = (0, 0, 0)

    def start(self):
        self.started = True
        self.costs = (0, 0, 0)
        return [0]

    def change_costs(self, numbers):
        if not are_costs(numbers):
            return [NOT_RIGHT]
        before = self.costs
        self.costs = tuple(numbers)
        return [0] + list(before)

    def cost(self, word):
        if not is_word(word):
            return [NOT_RIGHT]
        return [0, word_cost(self.costs, word)]

    def mean(self, word):
        if not is_word(word):
            return [NOT_RIGHT]
        return [0] + list(word_mean(self.costs, word))

    def good(self, word):
        if not is_word(word):
            return [NOT_RIGHT]
        return [1] if is_good(self.costs, word) else [0]

    def least(self):
        return [least_of_five(self.costs)] + list(least_mean(self.costs))

    def ties(self):
        found = ties_of_five(self.costs)
        return [len(found)] + found

    def told_word(self, word):
        return [len(word)] + list(word) + list(word_mean(self.costs, word))

    def word(self, k):
        if k >= len(FIVE):
            return [NONE_SUCH]
        return self.told_word(FIVE[k])

    def best(self, steps):
        if steps < 1 or steps > MOST_BEST_STEPS:
            return [NOT_RIGHT]
        return self.told_word(best_word(self.costs, steps))


class Reader:
    """A list of calls and the place up to which it has been read; the list is only looked at."""

    def __init__(self, calls):
        self.calls = calls
        self.place = 0

    def has_more(self):
        return self.place < len(self.calls)

    def read_numbers(self, how_many):
        numbers = self.calls[self.place:self.place + how_many]
        self.place = self.place + how_many
        return numbers

    def read_number(self):
        return self.read_numbers(1)[0]

    def read_rows(self, how_many):
        rows = []
        while len(rows) < how_many:
            rows.append(self.read_numbers(self.read_number()))
        return rows


def answer_call(layers, call, numbers, rows):
    """Give what one call answers, by its number, its whole numbers and its rows."""
    if call == START:
        return layers.start()
    if not layers.started:
        return [NOT_STARTED]
    if call == COSTS:
        return layers.change_costs(numbers)
    if call == COST:
        return layers.cost(rows[0])
    if call == MEAN:
        return layers.mean(rows[0])
    if call == LEAST:
        return layers.least()
    if call == WORD:
        return layers.word(numbers[0])
    if call == TIES:
        return layers.ties()
    if call == BEST:
        return layers.best(numbers[0])
    if call == GOOD:
        return layers.good(rows[0])
    raise NotImplementedError(f"call {call} is not there yet")


def answers(calls):
    """Answer the calls on one new object: for each how many numbers, then these."""
    reader = Reader(calls)
    layers = Layers()
    told = []
    while reader.has_more():
        call = reader.read_number()
        shape = SHAPES[call]
        numbers = reader.read_numbers(shape[0])
        rows = reader.read_rows(shape[1])
        answer = answer_call(layers, call, numbers, rows)
        told.append(len(answer))
        told.extend(answer)
    return told
