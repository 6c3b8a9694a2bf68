"""Memories whose lowest place is 0, up to a bound: their numbers, and the ends that they have."""

from slackrods.checks import check_count
from slackrods.errors import OutOfBound
from slackrods.loops import open_swings
from slackrods.memories import Memory

GREATEST_BOUND = 60
GREATEST_BOUND_OF_ENDS = 24


def _check_within(memory, bound):
    """Raise OutOfBound for what is no memory from 0 up to a bound."""
    if not isinstance(memory, Memory):
        raise OutOfBound("only a memory has a number")
    if memory.places[0] != 0 or max(memory.places) > bound:
        raise OutOfBound(f"the memory does not lie from 0 to {bound}")


def memory_count(bound):
    """Return how many memories there are from 0 up to a bound."""
    check_count(bound, 0, GREATEST_BOUND)
    # The heights of the swings get less and less, so each choice of heights
    # up to the bound is one memory.
    return 1 << bound


def memory_number(memory, bound):
    """Return the number of a memory among those from 0 up to a bound, in the order of their places."""
    check_count(bound, 0, GREATEST_BOUND)
    _check_within(memory, bound)
    # Ahead of a memory stands what it goes on from, and 2 ** (height - 1)
    # memories for each other height with which that goes on to a lower place:
    # the lower heights on the way up, the greater ones on the way down.
    heights = open_swings(memory)
    number = 0
    for index, height in enumerate(heights):
        if index % 2 == 0:
            number += 1 << (height - 1)
        else:
            number += 1 + (1 << (heights[index - 1] - 1)) - (1 << height)
    return number


def nth_memory(bound, number):
    """Return the memory with a number among those from 0 up to a bound."""
    check_count(bound, 0, GREATEST_BOUND)
    many = 1 << bound
    check_count(number, 0, many - 1)
    places = [0]
    while number > 0:
        # On the way down the heights stand the other way round, so they are
        # counted from the end; the memories of one height do not.
        up = len(places) % 2 == 1
        counted = number if up else many - number
        height = counted.bit_length()
        many = 1 << (height - 1)
        number = counted - many if up else 2 * many - 1 - counted
        places.append(places[-1] + (height if up else -height))
    return Memory(tuple(places))


def ends_within(rig, bound):
    """Return a dict from the ends of a rig with the memories from 0 up to a bound to their numbers."""
    check_count(bound, 0, GREATEST_BOUND_OF_ENDS)
    counts = {0: 1}
    for height in range(1, bound + 1):
        # The swings behind a first one of this height take away from the end
        # what they would add without it.
        highest = rig.curve(height)
        longer = dict(counts)
        for end, many in counts.items():
            longer[highest - end] = longer.get(highest - end, 0) + many
        counts = longer
    return {end: counts[end] for end in sorted(counts)}
