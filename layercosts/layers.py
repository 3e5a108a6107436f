"""The calls on one object: how they are read from one list, and what each answers."""

from layercosts.five import FIVE, NEEDED_COSTS, is_good, least_mean, least_of_five, ties_of_five
from layercosts.turning import cost_with_step_turned, falling_step, word_at_rest
from layercosts.words import best_word, is_less, is_word, word_cost, word_mean

# The numbers of the calls.
START = 0
COSTS = 1
COST = 2
MEAN = 3
LEAST = 4
WORD = 5
TIES = 6
BEST = 7
GOOD = 8
CHEAPER = 9
TURN = 10
FALL = 11
REST = 12
JOINED = 13
NEEDS = 14
TURNED_OVER = 15
STATE = 16

# How many whole numbers, then how many rows, stand behind each call's number, from start to state.
SHAPES = (
    (0, 0), (3, 0), (0, 1), (0, 1), (0, 0), (1, 0), (0, 0), (1, 0), (0, 1),
    (0, 2), (1, 1), (0, 1), (0, 1), (0, 2), (1, 0), (0, 0), (0, 0),
)

NOT_STARTED = -11
NOT_RIGHT = -22
NONE_SUCH = -2
AT_REST = -33

MOST_COST = 100
MOST_BEST_STEPS = 6


def are_costs(numbers):
    """Tell whether each of these is from -100 to 100."""
    for number in numbers:
        if number < -MOST_COST or number > MOST_COST:
            return False
    return True


class Layers:
    """The costs, and what is answered by them; each answer is a list of numbers, each word a right one."""

    def __init__(self):
        self.started = False
        self.costs = (0, 0, 0)

    def start(self):
        self.started = True
        self.costs = (0, 0, 0)
        return [0]

    def change_costs(self, numbers):
        if not are_costs(numbers):
            return [NOT_RIGHT]
        before = self.costs
        self.costs = tuple(numbers)
        return [0] + list(before)

    def turn_over(self):
        self.costs = (-self.costs[0], self.costs[1], -self.costs[2])
        return [0]

    def state(self):
        return [0] + list(self.costs)

    def cost(self, word):
        return [0, word_cost(self.costs, word)]

    def mean(self, word):
        return [0] + list(word_mean(self.costs, word))

    def good(self, word):
        return [1] if is_good(self.costs, word) else [0]

    def cheaper(self, first, second):
        first_mean = word_mean(self.costs, first)
        second_mean = word_mean(self.costs, second)
        if is_less(first_mean, second_mean):
            return [1]
        if is_less(second_mean, first_mean):
            return [2]
        return [0]

    def joined(self, first, second):
        whole = first + second
        # Two right words may still be too long as one.
        if not is_word(whole):
            return [NOT_RIGHT]
        apart = word_cost(self.costs, first) + word_cost(self.costs, second)
        return [0, word_cost(self.costs, whole), apart]

    def least(self):
        return [least_of_five(self.costs)] + list(least_mean(self.costs))

    def ties(self):
        found = ties_of_five(self.costs)
        return [len(found)] + found

    def told_word(self, word):
        return [len(word)] + list(word) + list(word_mean(self.costs, word))

    def word(self, k):
        if k >= len(FIVE):
            return [NONE_SUCH]
        return self.told_word(FIVE[k])

    def needs(self, k):
        if k >= len(FIVE):
            return [NONE_SUCH]
        return [0] + list(NEEDED_COSTS[k])

    def best(self, steps):
        if steps < 1 or steps > MOST_BEST_STEPS:
            return [NOT_RIGHT]
        return self.told_word(best_word(self.costs, steps))

    def turn(self, i, word):
        if i >= len(word):
            return [NONE_SUCH]
        return [0, cost_with_step_turned(self.costs, word, i) - word_cost(self.costs, word)]

    def fall(self, word):
        step = falling_step(self.costs, word)
        if step is None:
            return [AT_REST]
        return [step, cost_with_step_turned(self.costs, word, step)]

    def rest(self, word):
        resting = word_at_rest(self.costs, word)
        return [len(resting)] + resting + [word_cost(self.costs, resting)]


class Reader:
    """A list of calls and the place up to which it has been read; the list is only looked at."""

    def __init__(self, calls):
        self.calls = calls
        self.place = 0

    def has_more(self):
        return self.place < len(self.calls)

    def read_numbers(self, how_many):
        numbers = self.calls[self.place:self.place + how_many]
        self.place = self.place + how_many
        return numbers

    def read_number(self):
        return self.read_numbers(1)[0]

    def read_rows(self, how_many):
        rows = []
        while len(rows) < how_many:
            rows.append(self.read_numbers(self.read_number()))
        return rows


def answer_without_word(layers, call, numbers):
    """Give what a call answers that is handed no word."""
    if call == COSTS:
        return layers.change_costs(numbers)
    if call == LEAST:
        return layers.least()
    if call == WORD:
        return layers.word(numbers[0])
    if call == TIES:
        return layers.ties()
    if call == BEST:
        return layers.best(numbers[0])
    if call == NEEDS:
        return layers.needs(numbers[0])
    if call == TURNED_OVER:
        return layers.turn_over()
    return layers.state()


def answer_of_word(layers, call, numbers, word):
    """Give what a call answers that is handed one word."""
    if call == COST:
        return layers.cost(word)
    if call == MEAN:
        return layers.mean(word)
    if call == GOOD:
        return layers.good(word)
    if call == TURN:
        return layers.turn(numbers[0], word)
    if call == FALL:
        return layers.fall(word)
    return layers.rest(word)


def answer_of_two_words(layers, call, first, second):
    """Give what a call answers that is handed two words."""
    if call == CHEAPER:
        return layers.cheaper(first, second)
    return layers.joined(first, second)


def answer_call(layers, call, numbers, rows):
    """Give what one call answers, by its number, its whole numbers and its rows."""
    if call == START:
        return layers.start()
    if not layers.started:
        return [NOT_STARTED]
    # Of all that may be refused behind a start, a row that is no word comes first.
    for row in rows:
        if not is_word(row):
            return [NOT_RIGHT]
    if len(rows) == 0:
        return answer_without_word(layers, call, numbers)
    if len(rows) == 1:
        return answer_of_word(layers, call, numbers, rows[0])
    return answer_of_two_words(layers, call, rows[0], rows[1])


def answers(calls):
    """Answer the calls on one new object: for each how many numbers, then these."""
    reader = Reader(calls)
    layers = Layers()
    told = []
    while reader.has_more():
        call = reader.read_number()
        shape = SHAPES[call]
        numbers = reader.read_numbers(shape[0])
        rows = reader.read_rows(shape[1])
        answer = answer_call(layers, call, numbers, rows)
        told.append(len(answer))
        told.extend(answer)
    return told
