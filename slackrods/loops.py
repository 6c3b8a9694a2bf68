"""Closed loops, open swings, and how far the end of a rig goes."""

from slackrods.checks import check_row, is_number
from slackrods.errors import InvalidPlace
from slackrods.following import ends_of_rod
from slackrods.memories import after_move, count_kept

HIGHEST_AREA = 1000


def _swings(places):
    """Return the heights of the swings between neighboring places."""
    return [abs(places[index + 1] - places[index]) for index in range(len(places) - 1)]


def closed_heights(row):
    """Return, for each move of a row from rest, the list of the heights of the loops that it closes."""
    closed = []
    places = (0,)
    for place in row:
        # From where the move's place comes to stand the swings are forgotten
        # in pairs, there and back; the first one of each pair is the loop.
        closed.append(_swings(places)[count_kept(places, place)::2])
        places = after_move(places, place)
    return closed


def count_heights(closed):
    """Return a dict from all heights in lists of heights, ascending, to how many there are."""
    counts = {}
    for heights in closed:
        for height in heights:
            counts[height] = counts.get(height, 0) + 1
    return {height: counts[height] for height in sorted(counts)}


def loops(row):
    """Return a dict from the heights of the loops that a row closes from rest to their numbers."""
    check_row(row)
    return count_heights(closed_heights(row))


def open_swings(memory):
    """Return the list of the heights between neighboring places of a memory."""
    return _swings(memory.places)


def _travel_of_move(ways):
    """Return the travel of a rig's end in one move, from a list of pairs (way of a rod, its arm)."""
    # A rod that has begun to move goes on until the move is over. So in the
    # last steps all rods move, ahead of these all but the one with the shortest
    # way, and so on: the steps are gone through from the last one.
    travelled = 0
    seen = 0
    pull = sum([arm for _, arm in ways])
    for way, arm in sorted(ways):
        travelled += abs(pull) * (way - seen)
        pull -= arm
        seen = way
    return travelled


def travels(arms, row):
    """Return how far the end of a rig with such arms goes in each move of a row from rest."""
    paths = [(arm, [0] + ends_of_rod(slack, 0, row)) for slack, arm in arms]
    ways = [[(abs(path[index + 1] - path[index]), arm) for arm, path in paths] for index in range(len(row))]
    return [_travel_of_move(of_rods) for of_rods in ways]


def travel(rig, row):
    """Return how far the end of a rig goes in all, up and down, in a row from rest."""
    check_row(row)
    return sum(travels(rig.arms, row))


def area(rig, height):
    """Return by how much the end is higher on the way down from a height than on the way up, in all."""
    if not is_number(height, 0, HIGHEST_AREA):
        raise InvalidPlace("the height of an area is from 0 to 1000")
    up = rig(list(range(1, height)))
    down = rig(list(range(height, 0, -1)))
    return sum(down[1:]) - sum(up)
