"""Panels: rigs with names that one handle drives."""

from slackrods.checks import check_name
from slackrods.errors import InvalidPanel, UnknownName, UnlikeRigs
from slackrods.rigs import Rig

MOST_RIGS = 9


def _check_rigs(rigs):
    """Raise InvalidName or InvalidPanel for what is no dict of one to nine rigs by their names."""
    if not isinstance(rigs, dict):
        raise InvalidPanel("a dict of rigs is needed")
    for name in rigs:
        check_name(name)
    if not 1 <= len(rigs) <= MOST_RIGS:
        raise InvalidPanel("a panel has one to nine rigs")
    for name in rigs:
        if not isinstance(rigs[name], Rig):
            raise InvalidPanel("a panel has only rigs")


def _ranked(ends):
    """Return names by the places of their ends, the greatest first, of equal ones in ascending order."""
    return [name for _, name in sorted([(-end, name) for name, end in ends.items()])]


class Panel:
    """One to nine rigs with one handle, by their names."""

    def __init__(self, rigs):
        _check_rigs(rigs)
        self._rigs = {name: rigs[name] for name in sorted(rigs)}

    @property
    def names(self):
        """The names, ascending."""
        return list(self._rigs)

    def __call__(self, row):
        """Return a dict from the names to the lists of the places of the ends after each move of a row."""
        return {name: rig(row) for name, rig in self._rigs.items()}

    def __len__(self):
        return len(self._rigs)

    def __contains__(self, name):
        return isinstance(name, str) and name in self._rigs

    def __getitem__(self, name):
        if name not in self:
            raise UnknownName("no rig has this name")
        return self._rigs[name]

    def __iter__(self):
        raise TypeError("a panel cannot be iterated over")

    def __eq__(self, other):
        return isinstance(other, Panel) and self._rigs == other._rigs

    def __or__(self, other):
        if not isinstance(other, Panel):
            raise InvalidPanel("only two panels can be joined")
        for name in other._rigs:
            if name in self and self._rigs[name] != other._rigs[name]:
                raise UnlikeRigs("a name has unlike rigs")
        return Panel({**self._rigs, **other._rigs})

    def __sub__(self, name):
        if name not in self:
            raise UnknownName("no rig has this name")
        return Panel({other: self._rigs[other] for other in self._rigs if other != name})

    def __rshift__(self, other):
        return Panel({name: rig >> other for name, rig in self._rigs.items()})

    def ends_at(self, memory):
        """Return a dict from the names to the places of the ends after a memory."""
        return {name: rig.at(memory) for name, rig in self._rigs.items()}

    def ranking(self, memory):
        """Return the names by the places of the ends after a memory, the greatest first."""
        return _ranked(self.ends_at(memory))

    def first_change(self, row):
        """Return the index of the first move of a row that changes the ranking, or None."""
        ends = self(row)
        for index in range(len(row)):
            # Up to the first change the ranking is still that at rest.
            if _ranked({name: ends[name][index] for name in ends}) != self.names:
                return index
        return None

    def alike(self):
        """Return the list of the lists of names whose rigs are equal."""
        names_by_arms = {}
        for name, rig in self._rigs.items():
            names_by_arms.setdefault(rig.arms, []).append(name)
        return sorted(list(names_by_arms.values()))
