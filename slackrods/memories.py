"""Memories: the few places of the handle that matter later."""

from slackrods.checks import check_place, check_row, is_place
from slackrods.errors import InvalidMemory


def _is_between(place, one, other):
    """Tell whether a place is strictly between two others."""
    return min(one, other) < place < max(one, other)


def _fits(places, index):
    """Tell whether the place at an index goes with those before it."""
    place = places[index]
    if not is_place(place):
        return False
    if index == 0:
        return place <= 0
    if index == 1:
        return place > places[0]
    return _is_between(place, places[index - 2], places[index - 1])


def _check_places(places):
    """Raise InvalidMemory for what is no tuple of the places of a memory."""
    if not isinstance(places, tuple) or len(places) == 0:
        raise InvalidMemory(0)
    for index in range(len(places)):
        if not _fits(places, index):
            raise InvalidMemory(index)


def count_kept(places, place):
    """Return how many places of a memory still stand ahead of the handle's after a move."""
    if place <= places[0]:
        return 0
    # Each swing lies within the one before it, so the first swing that
    # the move reaches or passes ends all the later ones, too.
    kept = 1
    while kept < len(places) and _is_between(place, places[kept - 1], places[kept]):
        kept += 1
    return kept


def after_move(places, place):
    """Return the places of a memory after a move of the handle."""
    return places[:count_kept(places, place)] + (place,)


class Memory:
    """The lowest place of the handle, the highest since, the lowest since that, and so on."""

    def __init__(self, places):
        _check_places(places)
        self._places = places

    @property
    def places(self):
        """The places, the one where the handle is last."""
        return self._places

    @property
    def place(self):
        """The place where the handle is."""
        return self._places[-1]

    @property
    def row(self):
        """The shortest list of moves that leads here from rest."""
        if self._places[0] == 0:
            return list(self._places[1:])
        return list(self._places)

    def __call__(self, place):
        """Return the memory after one more move of the handle."""
        check_place(place)
        return Memory(after_move(self._places, place))

    def __len__(self):
        return len(self._places)

    def __eq__(self, other):
        return isinstance(other, Memory) and self._places == other._places


def memory_of(row):
    """Return the memory after a row of moves from rest."""
    check_row(row)
    places = (0,)
    for place in row:
        places = after_move(places, place)
    return Memory(places)
