"""Wrong arguments, and pairs of a random rig and the slow model of it, for tests."""

import random

from slackrods.rigs import rod
from tests import naive

WRONG_KINDS = (None, True, False, "1", "", (1,), (), [1], [], 1.0)

# Rows that are refused, each with the index that the error has.
WRONG_ROWS = tuple(
    [([1] * 1001, 1000), ([1] * 1000 + [None], 1000), ([2, 3, 1000001, None], 2), ([-1000001], 0)]
    + [([3, wrong, None], 1) for wrong in WRONG_KINDS]
    + [(wrong, 0) for wrong in (None, (1, 2), (), "12", "", 5, 0, True, False)]
)


def generator(seed):
    return random.Random(seed)


def random_row(chance, length, low, high):
    return [chance.randint(low, high) for _ in range(length)]


def random_parts(chance):
    """Slacks and factors of one to four rods."""
    return [(chance.randint(0, 6), chance.randint(-3, 3)) for _ in range(chance.randint(1, 4))]


def goes_forward(parts):
    """Whether the moving rods together, those up to any slack, never go against the handle."""
    return all(sum(times for slack, times in parts if slack <= most) >= 0 for most in range(7))


def random_sum(chance, forward):
    """A sum of rods, forward if wanted, and a function that makes its fresh model."""
    parts = random_parts(chance)
    while forward and not goes_forward(parts):
        parts = random_parts(chance)
    rig = rod(0) * 0
    for slack, times in parts:
        rig = rig + rod(slack) * times
    return rig, model_of_arms(parts)


def model_of_arms(arms):
    """A function that makes the fresh model of a sum of rods."""
    return lambda: naive.Sum(*[(naive.Rod(slack), arm) for slack, arm in arms])


def chained(first, second):
    """A function that makes the fresh model of two chained ones."""
    return lambda: naive.Chain(first(), second())


def random_chain(chance, many):
    """So many sums that drive one another, and a function that makes the fresh model."""
    rig, model = random_sum(chance, many > 1)
    for left in range(many - 1, 0, -1):
        other, other_model = random_sum(chance, left > 1)
        rig = rig >> other
        model = chained(model, other_model)
    return rig, model
