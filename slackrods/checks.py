"""Checks of arguments that several files need."""

from slackrods.errors import InvalidCount, InvalidName, InvalidPlace, InvalidRow

FARTHEST = 1000000
LONGEST_ROW = 1000
LONGEST_NAME = 8


def is_whole_number(value):
    """Tell whether a value is an integer of any size."""
    # True and False are integers to Python, but no numbers here.
    return isinstance(value, int) and not isinstance(value, bool)


def is_number(value, low, high):
    """Tell whether a value is an integer from low to high."""
    return is_whole_number(value) and low <= value <= high


def is_place(value):
    """Tell whether a value is a place where the handle can be."""
    return is_number(value, -FARTHEST, FARTHEST)


def check_place(place):
    """Raise InvalidPlace for what is no place."""
    if not is_place(place):
        raise InvalidPlace("a place is from -1000000 to 1000000")


def check_row(row):
    """Raise InvalidRow for what is no list of at most 1000 places."""
    if not isinstance(row, list):
        raise InvalidRow(0)
    for index, place in enumerate(row):
        if index >= LONGEST_ROW or not is_place(place):
            raise InvalidRow(index)


def check_count(count, low, high):
    """Raise InvalidCount for what is no number from low to high."""
    if not is_number(count, low, high):
        raise InvalidCount(f"a number from {low} to {high} is needed")


def check_name(name):
    """Raise InvalidName for what is no name of one to eight letters a to z."""
    if not isinstance(name, str) or not 1 <= len(name) <= LONGEST_NAME:
        raise InvalidName("a name has one to eight letters")
    if not all(["a" <= letter <= "z" for letter in name]):
        raise InvalidName("a name has only letters a to z")
