"""Rows of moves that are repeated again and again."""

from slackrods.checks import check_count, check_row
from slackrods.errors import InvalidRow
from slackrods.following import ends_of_arms
from slackrods.loops import closed_heights, count_heights, travels

MOST_PASSES = 10 ** 18
GREATEST_LIMIT = 10 ** 18


def _check_moves(row):
    """Raise InvalidRow for what is no row of at least one move."""
    check_row(row)
    if len(row) == 0:
        raise InvalidRow(0)


class Repeated:
    """A rig whose handle goes through a row again and again."""

    def __init__(self, rig, row):
        _check_moves(row)
        # The first pass already leaves the memory that all later ones leave: the
        # lowest place of the row, or 0, the highest one since, and so on. So each
        # pass from the second one on does just what the second one does.
        many = len(row)
        closed = closed_heights(row + row)
        travelled = travels(rig.arms, row + row)
        self._ends = ends_of_arms(rig.arms, row + row)[many:]
        self._first_loops = count_heights(closed[:many])
        self._later_loops = count_heights(closed[many:])
        self._first_travel = sum(travelled[:many])
        self._later_travel = sum(travelled[many:])

    @property
    def ends(self):
        """The places of the end after each move of the second pass and of all later ones."""
        return list(self._ends)

    def __call__(self, count):
        """Return the place of the end after so many passes."""
        check_count(count, 0, MOST_PASSES)
        return self._ends[-1] if count > 0 else 0

    def loops_after(self, count):
        """Return a dict from the heights of the loops of so many passes to their numbers."""
        check_count(count, 0, MOST_PASSES)
        if count == 0:
            return {}
        counts = dict(self._first_loops)
        if count > 1:
            for height, many in self._later_loops.items():
                counts[height] = counts.get(height, 0) + many * (count - 1)
        return {height: counts[height] for height in sorted(counts)}

    def travel_after(self, count):
        """Return how far the end goes in all in so many passes."""
        check_count(count, 0, MOST_PASSES)
        if count == 0:
            return 0
        return self._first_travel + self._later_travel * (count - 1)

    def worn_after(self, limit):
        """Return the least number of passes after which the travel is above a limit, or None."""
        check_count(limit, 0, GREATEST_LIMIT)
        if self._first_travel > limit:
            return 1
        if self._later_travel == 0:
            return None
        return (limit - self._first_travel) // self._later_travel + 2
