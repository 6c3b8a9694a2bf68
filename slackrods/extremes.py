"""The greatest place at which the end of a rig can be."""

from slackrods.checks import is_number
from slackrods.errors import InvalidRange
from slackrods.memories import Memory

FARTHEST_RANGE = 200


def _check_range(span):
    """Raise InvalidRange for what is no pair of places around 0, at most 200 from it."""
    if not isinstance(span, tuple) or len(span) != 2:
        raise InvalidRange("a range is a tuple of two places")
    if not is_number(span[0], -FARTHEST_RANGE, 0) or not is_number(span[1], 0, FARTHEST_RANGE):
        raise InvalidRange("a range begins from -200 to 0 and ends from 0 to 200")


def _greatest_swings(ends):
    """Return, for each height, the greatest end of swings up to it, as pairs (end, heights of the swings).

    The ends are those after one move from rest to the heights 0, 1, 2 and so on.
    """
    # Each swing of a memory is less high than the one before it, and moves the
    # end as far as a first one of its height does, up and down in turn. So what
    # follows a first swing takes away what it would add as a beginning.
    greatest = [(0, ())]
    least = [(0, ())]
    for height in range(1, len(ends)):
        most, fewest = greatest[-1], least[-1]
        up = (ends[height] - fewest[0], (height,) + fewest[1])
        down = (ends[height] - most[0], (height,) + most[1])
        greatest.append(up if up[0] > most[0] else most)
        least.append(down if down[0] < fewest[0] else fewest)
    return greatest


def _places_of_swings(lowest, heights):
    """Return the places of a memory with a lowest place and swings of such heights."""
    places = [lowest]
    for index, height in enumerate(heights):
        places.append(places[-1] + (height if index % 2 == 0 else -height))
    return tuple(places)


def greatest_end(rig, span):
    """Return the greatest end that moves in a range can lead to from rest, and a memory with it."""
    _check_range(span)
    low, high = span
    greatest = _greatest_swings([rig.curve(height) for height in range(high - low + 1)])
    found = []
    for lowest in range(low, 1):
        # At the lowest place of all every rod's end is at the handle's place.
        end, heights = greatest[high - lowest]
        found.append((lowest * rig.pull + end, lowest, heights))
    end, lowest, heights = max(found)
    return end, Memory(_places_of_swings(lowest, heights))
