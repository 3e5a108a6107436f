"""Words with a step turned: what that spares, and where it comes to rest."""

from layercosts.words import word_cost


def with_step_turned(word, i):
    """Give another word that differs at this step alone; the word itself stays as it is."""
    other = list(word)
    other[i] = 1 - other[i]
    return other


def cost_with_step_turned(costs, word, i):
    """Tell what the word costs with this step turned."""
    return word_cost(costs, with_step_turned(word, i))


def falling_step(costs, word):
    """Give the first step by whose turning the word costs least, or None if by none it costs less."""
    found = None
    least = word_cost(costs, word)
    for i in range(len(word)):
        cost = cost_with_step_turned(costs, word, i)
        if cost < least:
            found = i
            least = cost
    return found


def word_at_rest(costs, word):
    """Turn the falling step again and again; it ends, as each turn leaves a cheaper one of finitely many words."""
    resting = list(word)
    step = falling_step(costs, resting)
    while step is not None:
        resting = with_step_turned(resting, step)
        step = falling_step(costs, resting)
    return resting
