"""Recordings: moves of a handle, and where the end of a rig was after each of them."""

from slackrods.checks import is_place, is_whole_number
from slackrods.errors import InvalidRecording
from slackrods.following import ends_of_arms
from slackrods.memories import count_kept


def _is_pair(pair):
    """Tell whether a value is a tuple of a place and a number."""
    return isinstance(pair, tuple) and len(pair) == 2 and is_place(pair[0]) and is_whole_number(pair[1])


def _check_recording(recording):
    """Raise InvalidRecording for what is no list of pairs (place, end)."""
    if not isinstance(recording, list):
        raise InvalidRecording(0)
    for index, pair in enumerate(recording):
        if not _is_pair(pair):
            raise InvalidRecording(index)


def _first_unlike_end(rig, recording):
    """Return the index of the first pair whose end is not that of a rig, or None."""
    ends = ends_of_arms(rig.arms, [place for place, _ in recording])
    for index, pair in enumerate(recording):
        if pair[1] != ends[index]:
            return index
    return None


def first_wrong(rig, recording):
    """Return the index of the first pair whose end is not that of a rig, or None."""
    _check_recording(recording)
    return _first_unlike_end(rig, recording)


def recorded(rig, row):
    """Return the recording of a rig and a row."""
    ends = rig(row)
    return list(zip(row, ends))


def explained(rigs, recording):
    """Return the indexes of those rigs with which the whole recording is right."""
    _check_recording(recording)
    return [index for index, rig in enumerate(rigs) if _first_unlike_end(rig, recording) is None]


def shortened(recording):
    """Return the pairs of a recording that matter later."""
    _check_recording(recording)
    # For each place of the memory the last pair after which it was the last
    # one, None for the place of rest.
    places = [0]
    pairs = [None]
    for pair in recording:
        kept = count_kept(places, pair[0])
        places = places[:kept] + [pair[0]]
        pairs = pairs[:kept] + [pair]
    # From the place 0 on the first beginning of the memory is rest.
    return pairs[1:] if places[0] == 0 else pairs
