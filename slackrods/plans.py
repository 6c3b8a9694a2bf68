"""Moves that lead to a memory, or to a place of the end."""

from slackrods.checks import check_place, is_place
from slackrods.errors import InvalidRange
from slackrods.following import ends_of_rod
from slackrods.memories import count_kept

WIDEST_RANGE = 40


def _count_shared(one, other):
    """Return with how many equal places two tuples begin."""
    shared = 0
    while shared < min(len(one), len(other)) and one[shared] == other[shared]:
        shared += 1
    return shared


def fewest_moves(memory, goal):
    """Return a shortest list of moves that leads from one memory to another, or None."""
    have, want = memory.places, goal.places
    # The lowest place of all never rises.
    if want[0] > have[0]:
        return None
    shared = _count_shared(have, want)
    moves = list(want[shared:])
    kept = count_kept(have, moves[0]) if moves else len(have)
    # Each move adds at most one place of the goal. Where more than the shared
    # places would be kept, one move back to the last of these forgets the rest.
    if kept > shared:
        return [want[shared - 1]] + moves
    return moves


def _check_range(span):
    """Raise InvalidRange for what is no pair of places, the second one 0 to 40 above the first."""
    if not isinstance(span, tuple) or len(span) != 2 or not is_place(span[0]) or not is_place(span[1]):
        raise InvalidRange("a range is a tuple of two places")
    if not 0 <= span[1] - span[0] <= WIDEST_RANGE:
        raise InvalidRange("the places of a range are in order, at most 40 apart")


def _lists_in(span):
    """Return all lists of at most two places in a range, shorter ones first, then in list order."""
    places = range(span[0], span[1] + 1)
    return [[]] + [[one] for one in places] + [[one, other] for one in places for other in places]


def _end_after(rods, row):
    """Return the place of the end after a row, from triples (slack, arm, end) of a rig's rods."""
    return sum([arm * ends_of_rod(slack, end, row)[-1] for slack, arm, end in rods])


def moves_to(rig, memory, place, end, span):
    """Return the shortest list of at most three moves that lead to a place and an end, or None."""
    check_place(place)
    _check_range(span)
    if memory.place == place and rig.at(memory) == end:
        return []
    rods = [(slack, arm, ends_of_rod(slack, 0, memory.places)[-1]) for slack, arm in rig.arms]
    for moves in _lists_in(span):
        row = moves + [place]
        if _end_after(rods, row) == end:
            return row
    return None
