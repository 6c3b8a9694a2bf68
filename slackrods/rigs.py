"""Rigs: rods that are put together by operators.

Each rig is kept as its arms, the one plain sum of rods that does the same.
"""

from slackrods.checks import FARTHEST, check_row, is_number
from slackrods.errors import InvalidEnds, InvalidPlace, InvalidSlack, InvalidTimes, NotForward, TooGreat
from slackrods.following import ends_of_arms

GREATEST_ROD = 99
GREATEST_TIMES = 99
GREATEST_SLACK = 999
GREATEST_ARM = 1000000
MOST_ARMS = 60
MOST_ENDS = 60


def _check_arms(arms):
    """Raise TooGreat for arms beyond the limits of a rig."""
    if len(arms) > MOST_ARMS:
        raise TooGreat("a rig has at most 60 arms")
    for slack, arm in arms:
        if slack > GREATEST_SLACK or not -GREATEST_ARM <= arm <= GREATEST_ARM:
            raise TooGreat("a slack is at most 999, an arm from -1000000 to 1000000")


def _sum_of_arms(one, other, times):
    """Return the arms of one rig and so many times another one, driven alike."""
    by_slack = dict(one)
    for slack, arm in other:
        by_slack[slack] = by_slack.get(slack, 0) + arm * times
    return tuple([(slack, by_slack[slack]) for slack in sorted(by_slack) if by_slack[slack] != 0])


def _height_of_end(arms, height):
    """Return the place of the end after one move from rest up to a height."""
    return sum([arm * max(0, height - slack) for slack, arm in arms])


def _curve_up_to(arms, top):
    """Return the places of the end at all heights from 0 to top."""
    by_slack = dict(arms)
    ends = [0]
    pull = 0
    for height in range(top):
        pull = pull + by_slack.get(height, 0)
        ends.append(ends[height] + pull)
    return ends


def _arms_of_curve(ends):
    """Return the arms with these ends at the heights 0, 1, 2 and so on."""
    arms = []
    pull = 0
    for slack in range(len(ends) - 1):
        change = ends[slack + 1] - ends[slack]
        if change != pull:
            arms.append((slack, change - pull))
        pull = change
    return tuple(arms)


def _greatest_slack(arms):
    """Return the greatest slack of arms, 0 if there are none."""
    return arms[-1][0] if arms else 0


def _chain_of_arms(first, second):
    """Return the arms of two rigs, the first one driving the second one."""
    # Only a swing's height counts, and the first end turns where the handle
    # does, so the curve of a chain is the second curve at the first one.
    # Behind both greatest slacks together it changes alike at each step.
    top = _greatest_slack(first) + _greatest_slack(second) + 1
    return _arms_of_curve([_height_of_end(second, end) for end in _curve_up_to(first, top)])


class Rig:
    """Rods put together; only the functions and operators of the package make it."""

    def __init__(self, arms):
        _check_arms(arms)
        self._arms = arms

    @property
    def arms(self):
        """The pairs (slack, arm) of the sum of rods that does the same, ascending."""
        return self._arms

    @property
    def pull(self):
        """The sum of all arms."""
        return sum([arm for _, arm in self._arms])

    @property
    def is_forward(self):
        """Whether the end never goes against the handle."""
        pull = 0
        for _, arm in self._arms:
            pull = pull + arm
            if pull < 0:
                return False
        return True

    @property
    def still(self):
        """The greatest height up to which the end stays at 0, None if it never moves."""
        return self._arms[0][0] if self._arms else None

    def curve(self, height):
        """Return the place of the end after one move from rest to a height."""
        if not is_number(height, 0, FARTHEST):
            raise InvalidPlace("a height is from 0 to 1000000")
        return _height_of_end(self._arms, height)

    def at(self, memory):
        """Return the place of the end after a memory."""
        # The places of a memory are also moves that lead to it.
        return ends_of_arms(self._arms, memory.places)[-1]

    def __call__(self, row):
        """Return the list of the places of the end after each move of a row from rest."""
        check_row(row)
        return ends_of_arms(self._arms, row)

    def __len__(self):
        return len(self._arms)

    def __getitem__(self, slack):
        if not is_number(slack, 0, GREATEST_SLACK):
            raise InvalidSlack("the slack of an arm is from 0 to 999")
        return dict(self._arms).get(slack, 0)

    def __iter__(self):
        raise TypeError("a rig cannot be iterated over")

    def __eq__(self, other):
        return isinstance(other, Rig) and self._arms == other._arms

    def __add__(self, other):
        return Rig(_sum_of_arms(self._arms, other._arms, 1))

    def __sub__(self, other):
        return Rig(_sum_of_arms(self._arms, other._arms, -1))

    def __neg__(self):
        return Rig(_sum_of_arms((), self._arms, -1))

    def __mul__(self, times):
        if not is_number(times, -GREATEST_TIMES, GREATEST_TIMES):
            raise InvalidTimes("a rig is multiplied by numbers from -99 to 99")
        return Rig(_sum_of_arms((), self._arms, times))

    def __rshift__(self, other):
        if not self.is_forward:
            raise NotForward("only a forward rig can drive another one")
        return Rig(_chain_of_arms(self._arms, other._arms))


def rod(slack):
    """Return the rig of one rod with a slack."""
    if not is_number(slack, 0, GREATEST_ROD):
        raise InvalidSlack("the slack of a rod is from 0 to 99")
    return Rig(((slack, 1),))


def _check_ends(ends):
    """Raise InvalidEnds for what is no list of one to sixty ends."""
    if not isinstance(ends, list) or len(ends) == 0:
        raise InvalidEnds(0)
    for index, end in enumerate(ends):
        if index >= MOST_ENDS or not is_number(end, -FARTHEST, FARTHEST):
            raise InvalidEnds(index)


def rig_of(ends):
    """Return the rig whose curve has these ends at the heights 1, 2, 3 and so on."""
    _check_ends(ends)
    return Rig(_arms_of_curve([0] + ends))
