"""Watchers, which find out hidden slacks from what is seen of a rig."""

from slackrods.checks import check_count, check_place, is_whole_number, is_number
from slackrods.errors import Contradiction, InvalidPlace, InvalidSlack, InvalidTimes
from slackrods.following import ends_of_rod
from slackrods.memories import Memory

GREATEST_ROD_SLACK = 30
GREATEST_ROD_TIMES = 9
GREATEST_PAIR_SLACK = 20
FARTHEST_LIMIT = 100


def _check_pair(pair):
    """Raise InvalidPlace for what is no pair of a place and something."""
    if not isinstance(pair, tuple) or len(pair) != 2:
        raise InvalidPlace("a pair of a place and an end is needed")
    check_place(pair[0])


def _moved(rods, place):
    """Return the triples (slack, arm, end) of rods after a move of the handle."""
    return [(slack, arm, ends_of_rod(slack, end, [place])[-1]) for slack, arm, end in rods]


def _end_of(rods):
    """Return the place of the end of all rods together."""
    return sum([arm * end for _, arm, end in rods])


def _agreeing(found, place, end):
    """Return those pairs (candidate, rods), after a move, that have an end there."""
    if not is_whole_number(end):
        return []
    moved = [(candidate, _moved(rods, place)) for candidate, rods in found]
    return [(candidate, rods) for candidate, rods in moved if _end_of(rods) == end]


class Watcher:
    """Which candidates for a hidden rig agree with all that was seen of it."""

    def __init__(self, arms_by_candidate):
        # Each candidate with the triples (slack, arm, end) of its rods, ascending.
        self._found = [
            (candidate, [(slack, arm, 0) for slack, arm in arms])
            for candidate, arms in arms_by_candidate.items()
        ]
        self._memory = Memory((0,))
        self._history = []

    @property
    def candidates(self):
        """The pairs that agree with all that was seen, ascending."""
        return [candidate for candidate, _ in self._found]

    @property
    def memory(self):
        """The memory of the handle."""
        return self._memory

    @property
    def history(self):
        """The pairs (place, end) that were seen."""
        return list(self._history)

    def see(self, place, end):
        """See an end after a move to a place, and return how many candidates remain."""
        return self.see_all((place, end))

    def see_all(self, *pairs):
        """See pairs (place, end) one after another, all or none, and return how many candidates remain."""
        found = self._found
        memory = self._memory
        for pair in pairs:
            _check_pair(pair)
            place, end = pair
            found = _agreeing(found, place, end)
            if len(found) == 0:
                raise Contradiction("no candidate agrees with this end")
            memory = memory(place)
        self._found = found
        self._memory = memory
        self._history = self._history + list(pairs)
        return len(found)

    def _counts_after(self, place):
        """Return a dict from the ends that can be seen after a move to the numbers of their candidates."""
        counts = {}
        for _, rods in self._found:
            end = _end_of(_moved(rods, place))
            counts[end] = counts.get(end, 0) + 1
        return counts

    def possible_ends(self, place):
        """Return the ascending list of all ends that can be seen after a move to a place."""
        check_place(place)
        return sorted(self._counts_after(place))

    def telling_move(self, limit):
        """Return the least place up to a limit that leaves the fewest candidates at the worst."""
        check_count(limit, 0, FARTHEST_LIMIT)
        worst = [max(list(self._counts_after(place).values())) for place in range(limit + 1)]
        return worst.index(min(worst))


def rod_watcher(most, times):
    """Return a watcher of one rod with a slack up to most and an arm up to times."""
    if not is_number(most, 0, GREATEST_ROD_SLACK):
        raise InvalidSlack("the greatest slack of a hidden rod is from 0 to 30")
    if not is_number(times, 1, GREATEST_ROD_TIMES):
        raise InvalidTimes("the greatest arm of a hidden rod is from 1 to 9")
    pairs = [(slack, arm) for slack in range(most + 1) for arm in range(1, times + 1)]
    return Watcher({(slack, arm): ((slack, arm),) for slack, arm in pairs})


def pair_watcher(most):
    """Return a watcher of the sum of two rods with slacks up to most."""
    if not is_number(most, 0, GREATEST_PAIR_SLACK):
        raise InvalidSlack("the greatest slack of a hidden pair is from 0 to 20")
    pairs = [(slack, other) for slack in range(most + 1) for other in range(slack, most + 1)]
    return Watcher({(slack, other): ((slack, 1), (other, 1)) for slack, other in pairs})
