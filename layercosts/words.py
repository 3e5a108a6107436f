"""Words of steps (1 is up, 0 is down), and what they cost by three costs."""

MOST_STEPS = 12


def is_word(steps):
    """Tell whether these are 1 to 12 steps, each of them 0 or 1."""
    if len(steps) < 1 or len(steps) > MOST_STEPS:
        return False
    for step in steps:
        if step != 0 and step != 1:
            return False
    return True


def likeness(word, apart):
    """Count the steps that are like the step so far on, less those that are not."""
    total = 0
    for i in range(len(word)):
        # A word comes again and again, so behind its last step its first one stands.
        if word[i] == word[(i + apart) % len(word)]:
            total = total + 1
        else:
            total = total - 1
    return total


def word_cost(costs, word):
    """Tell what a word costs, by the costs for steps one, two and three apart."""
    return costs[0] * likeness(word, 1) + costs[1] * likeness(word, 2) + costs[2] * likeness(word, 3)


def common_divisor(a, b):
    """Give the greatest number that divides both, of which neither is below 0."""
    while b != 0:
        remainder = a % b
        a = b
        b = remainder
    return a


def word_mean(costs, word):
    """Tell what a word costs for each step: the number above, then the one below."""
    cost = word_cost(costs, word)
    divisor = common_divisor(abs(cost), len(word))
    return (cost // divisor, len(word) // divisor)


def is_less(mean, other):
    """Compare two means; below both stands a number above 0, so the sides may be multiplied by it."""
    return mean[0] * other[1] < other[0] * mean[1]


def words_in_order(steps):
    """Give all words of so many steps; down comes first where they first differ."""
    words = [()]
    for place in range(steps):
        longer = []
        for word in words:
            longer.append(word + (0,))
            longer.append(word + (1,))
        words = longer
    return words


def best_word(costs, steps):
    """Give the first in order of the words of so many steps that cost least."""
    best = None
    for word in words_in_order(steps):
        if best is None or word_cost(costs, word) < word_cost(costs, best):
            best = word
    return best
