"""The five words of which one always costs least in the mean."""

from layercosts.words import is_less, word_mean

FIVE = ((1,), (1, 0), (1, 1, 0, 0), (1, 1, 1, 0, 0, 0), (1, 1, 0))

# Costs by which each of the five is the only one that costs least.
NEEDED_COSTS = ((-1, 0, 0), (2, -1, 0), (0, 1, 0), (-1, 1, 2), (1, 1, -2))


def least_of_five(costs):
    """Give the number of the first of the five that costs least of them in the mean."""
    least = 0
    for k in range(1, len(FIVE)):
        if is_less(word_mean(costs, FIVE[k]), word_mean(costs, FIVE[least])):
            least = k
    return least


def least_mean(costs):
    """Tell what the cheapest of the five costs in the mean."""
    return word_mean(costs, FIVE[least_of_five(costs)])


def ties_of_five(costs):
    """Give the numbers of those of the five that cost as little as any, rising."""
    least = least_mean(costs)
    return [k for k in range(len(FIVE)) if word_mean(costs, FIVE[k]) == least]


def is_good(costs, word):
    """Tell whether none of the five costs less in the mean than this word."""
    return not is_less(least_mean(costs), word_mean(costs, word))
