"""Comparing rigs, and finding chains and sums that do the same as a rig."""

from slackrods.checks import check_count
from slackrods.errors import InvalidCount, NotForward, TooGreat
from slackrods.rigs import Rig

MOST_RIGS = 8
MOST_INDEXES = 3


def first_unlike(one, other):
    """Return the place nearest to 0 where the ends of two rigs are unlike after one move, or None."""
    if one == other:
        return None
    slack = min([slack for slack, _ in one.arms + other.arms if one[slack] != other[slack]])
    # Below 0 all ends are at the handle's place, whatever their slacks, so
    # rigs are unlike there from the first place on, or nowhere.
    if slack > 0 and one.pull != other.pull:
        return -1
    return slack + 1


def _check_rigs(rigs):
    """Raise InvalidCount for what is no list of one to eight rigs."""
    if not isinstance(rigs, list) or not 1 <= len(rigs) <= MOST_RIGS:
        raise InvalidCount("a list of one to eight rigs is needed")
    for rig in rigs:
        if not isinstance(rig, Rig):
            raise InvalidCount("there are only rigs in the list")


def _chain_of_two(one, other):
    """Return a rig that drives another one, None if this raises an exception."""
    try:
        return one >> other
    except (NotForward, TooGreat):
        return None


def _sum_of_two(one, other):
    """Return the sum of two rigs, None if this raises an exception."""
    try:
        return one + other
    except TooGreat:
        return None


def _chains_with_one_more(chains, rigs):
    """Return the pairs (indexes, rig) of all chains with one more rig, in list order."""
    longer = []
    for indexes, chain in chains:
        for index, rig in enumerate(rigs):
            whole = _chain_of_two(chain, rig)
            if whole is not None:
                longer.append((indexes + [index], whole))
    return longer


def _sums_with_one_more(sums, rigs):
    """Return the pairs (indexes, rig) of all sums with one more rig, in list order."""
    longer = []
    for indexes, total in sums:
        for index in range(indexes[-1], len(rigs)):
            whole = _sum_of_two(total, rigs[index])
            if whole is not None:
                longer.append((indexes + [index], whole))
    return longer


def _first_alike(rig, found):
    """Return the indexes of the first pair (indexes, rig) that does what a rig does, or None."""
    for indexes, whole in found:
        if whole == rig:
            return indexes
    return None


def _shortest_alike(rig, rigs, most, with_one_more):
    """Return the first shortest list of indexes of rigs that together do what a rig does, or None."""
    _check_rigs(rigs)
    check_count(most, 1, MOST_INDEXES)
    found = [([index], one) for index, one in enumerate(rigs)]
    alike = _first_alike(rig, found)
    for _ in range(most - 1):
        if alike is None:
            found = with_one_more(found, rigs)
            alike = _first_alike(rig, found)
    return alike


def chain_for(rig, rigs, most):
    """Return the shortest list of indexes of rigs that do what a rig does as a chain, or None."""
    return _shortest_alike(rig, rigs, most, _chains_with_one_more)


def sum_for(rig, rigs, most):
    """Return the shortest ascending list of indexes of rigs that do what a rig does as a sum, or None."""
    return _shortest_alike(rig, rigs, most, _sums_with_one_more)
