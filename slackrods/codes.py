"""Rigs as lists of numbers from 0 to 255."""

from slackrods.checks import is_number
from slackrods.errors import DecodeError
from slackrods.rigs import GREATEST_ARM, GREATEST_SLACK, MOST_ARMS, Rig

FIRST_NUMBER = 82
FIRST_CHECKSUM = 7
NUMBERS_OF_ARM = 6


def _checksum(numbers):
    """Return the checksum behind numbers."""
    checksum = FIRST_CHECKSUM
    for number in numbers:
        checksum = (3 * checksum + number) % 253
    return checksum


def encode(rig):
    """Return the list of numbers of a rig."""
    numbers = [FIRST_NUMBER, len(rig)]
    for slack, arm in rig.arms:
        size = abs(arm)
        numbers.extend([slack // 256, slack % 256, 0 if arm > 0 else 1])
        numbers.extend([size // 65536, size // 256 % 256, size % 256])
    return numbers + [_checksum(numbers)]


def _number_at(numbers, offset, low, high):
    """Return the number at an offset, which must be there and from low to high."""
    if offset >= len(numbers) or not is_number(numbers[offset], low, high):
        raise DecodeError(offset)
    return numbers[offset]


def _slack_at(numbers, offset, least):
    """Return the slack at an offset, which must not be less than the least one."""
    # Above the greatest slack no quotient could be made right.
    highest = GREATEST_SLACK // 256 if least <= GREATEST_SLACK else -1
    part = 256 * _number_at(numbers, offset, least // 256, highest)
    return part + _number_at(numbers, offset + 1, max(0, least - part), min(255, GREATEST_SLACK - part))


def _size_at(numbers, offset):
    """Return the size of an arm at an offset."""
    size = 0
    for at in range(offset, offset + 3):
        size = 256 * size + _number_at(numbers, at, 0, 255)
    if not 1 <= size <= GREATEST_ARM:
        raise DecodeError(offset)
    return size


def decode(numbers):
    """Return the rig of a list of numbers."""
    if not isinstance(numbers, list):
        raise DecodeError(0)
    _number_at(numbers, 0, FIRST_NUMBER, FIRST_NUMBER)
    many = _number_at(numbers, 1, 0, MOST_ARMS)
    arms = []
    offset = 2
    least = 0
    for _ in range(many):
        slack = _slack_at(numbers, offset, least)
        negative = _number_at(numbers, offset + 2, 0, 1)
        size = _size_at(numbers, offset + 3)
        arms.append((slack, -size if negative == 1 else size))
        offset += NUMBERS_OF_ARM
        least = slack + 1
    checksum = _checksum(numbers[:offset])
    _number_at(numbers, offset, checksum, checksum)
    if len(numbers) > offset + 1:
        raise DecodeError(offset + 1)
    return Rig(tuple(arms))
