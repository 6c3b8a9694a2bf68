"""The errors of the package, all straight under RodError."""


class RodError(ValueError):
    """What every error of the package is."""


class InvalidSlack(RodError):
    """A slack is not a number, or not in its limits."""


class InvalidTimes(RodError):
    """A factor is not a number, or not in its limits."""


class NotForward(RodError):
    """A rig that is not forward cannot drive another one."""


class TooGreat(RodError):
    """A result is beyond the limits of a rig or of a text."""


class InvalidRow(RodError):
    """A row is not a list of places; index tells where."""

    def __init__(self, index):
        super().__init__(f"invalid row, at index {index}")
        self.index = index


class InvalidPlace(RodError):
    """A place is not a number, or not in its limits."""


class InvalidEnds(RodError):
    """The ends of a curve are not such numbers; index tells where."""

    def __init__(self, index):
        super().__init__(f"invalid ends, at index {index}")
        self.index = index


class InvalidMemory(RodError):
    """The places are not those of a memory; index tells where."""

    def __init__(self, index):
        super().__init__(f"invalid memory, at index {index}")
        self.index = index


class InvalidCount(RodError):
    """A count is not a number, or not in its limits."""


class InvalidRange(RodError):
    """A range is not a pair of places, or not in its limits."""


class OutOfBound(RodError):
    """A memory is not one of those within a bound."""


class Contradiction(RodError):
    """What was seen agrees with no candidate."""


class NotationError(RodError):
    """A text is not that of a rig; index tells where."""

    def __init__(self, index):
        super().__init__(f"not the text of a rig, at index {index}")
        self.index = index


class DecodeError(RodError):
    """A list is not that of a rig; offset tells where."""

    def __init__(self, offset):
        super().__init__(f"not the numbers of a rig, at offset {offset}")
        self.offset = offset


class InvalidOperation(RodError):
    """An operation of a live rig is none; index tells which."""

    def __init__(self, index):
        super().__init__(f"invalid operation, at index {index}")
        self.index = index


class InvalidName(RodError):
    """A name is not one to eight letters a to z."""


class UnknownName(RodError):
    """Nothing is kept under a name."""


class InvalidRecording(RodError):
    """A recording is not a list of pairs; index tells where."""

    def __init__(self, index):
        super().__init__(f"invalid recording, at index {index}")
        self.index = index


class InvalidPanel(RodError):
    """A panel would have too few or too many rigs."""


class UnlikeRigs(RodError):
    """One name stands for unlike rigs."""
