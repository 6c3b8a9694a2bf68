"""How the ends of rods follow the handle."""


def ends_of_rod(slack, end, places):
    """Return where the end of a rod is after each of the handle's places, from where it was."""
    ends = []
    for place in places:
        end = min(max(end, place - slack), place)
        ends.append(end)
    return ends


def ends_of_arms(arms, places):
    """Return where the end of a rig is after each of the handle's places, from rest."""
    ends = [0 for _ in places]
    for slack, arm in arms:
        ends = [end + arm * far for end, far in zip(ends, ends_of_rod(slack, 0, places))]
    return ends
