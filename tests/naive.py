"""A slow model of the document's words: every rod is moved step by step.

Nothing here uses the package, so that tests can compare the package with it.
"""


class Rod:
    """One rod, as [2] tells it."""

    def __init__(self, slack):
        self.slack = slack
        self.end = 0

    def step(self, driver):
        if self.end > driver:
            self.end = driver
        elif driver - self.end > self.slack:
            self.end = driver - self.slack
        return self.end


class Sum:
    """Parts with factors that the same place drives."""

    def __init__(self, *parts):
        self.parts = parts
        self.end = 0

    def step(self, driver):
        self.end = sum(times * part.step(driver) for part, times in self.parts)
        return self.end


class Chain:
    """Two parts, the first one driving the second one through all places between."""

    def __init__(self, first, second):
        self.first = first
        self.second = second
        self.end = 0

    def step(self, driver):
        was = self.first.end
        now = self.first.step(driver)
        for place in way(was, now):
            self.second.step(place)
        self.end = self.second.end
        return self.end


def way(was, now):
    """All places from one to another, without the first one."""
    if now >= was:
        return range(was + 1, now + 1)
    return range(was - 1, now - 1, -1)


def ends(part, row):
    """The ends of a fresh part after each move of a row."""
    found = []
    was = 0
    for place in row:
        for passed in way(was, place):
            part.step(passed)
        was = place
        found.append(part.end)
    return found


def all_ends(part, row):
    """The ends of a fresh part after each single step of a row."""
    found = []
    was = 0
    for place in row:
        found.extend(part.step(passed) for passed in way(was, place))
        was = place
    return found


def memory_places(row):
    """The places that matter later, found in the whole way of the handle."""
    path = [0]
    for place in row:
        path.extend(way(path[-1], place))
    turn = min
    found = []
    while path:
        found.append(turn(path))
        last = max(at for at, place in enumerate(path) if place == found[-1])
        path = path[last + 1:]
        turn = max if turn is min else min
    return tuple(found)


def all_memories(low, high):
    """The places of all memories from low to high, as [6] tells them."""
    found = []
    new = [(lowest,) for lowest in range(low, 1)]
    while new:
        found.extend(new)
        new = [places + (place,) for places in new for place in range(low, high + 1) if goes_on(places, place)]
    return sorted(found)


def goes_on(places, place):
    """Whether a place can stand behind the others in a memory."""
    if len(places) == 1:
        return place > places[0]
    return min(places[-2:]) < place < max(places[-2:])


def closed_loops(row):
    """The heights of the closed loops of a row in their order, as [7] tells it step by step."""
    found = []
    swings = []
    was = 0
    for place in (passed for start, goal in zip([0] + row, row) for passed in way(start, goal)):
        up = place > was
        if swings and (swings[-1][1] > swings[-1][0]) == up:
            swings[-1][1] = place
        elif swings or up:
            swings.append([was, place])
        if len(swings) > 1 and place == swings[-2][0]:
            found.append(abs(swings[-2][1] - place))
            del swings[-2:]
        was = place
    return found


def travel(part, row):
    """How far the end of a fresh part goes in all single steps of a row."""
    found = [0] + all_ends(part, row)
    return sum(abs(after - before) for before, after in zip(found, found[1:]))
