"""Which places in the strand lie too near to one another.

A group is the list of the places at which one bobbin's joints will lie.
"""


def apart(places, others, gap):
    """True if each of the one list is at least gap from each of the other."""
    for place in places:
        for other in others:
            if abs(place - other) < gap:
                return False
    return True


def steps(places):
    """How far each place lies from the one next to it; the least of these is how far the nearest two lie apart."""
    rising = sorted(places)
    return [rising[k] - rising[k - 1] for k in range(1, len(rising))]


def apart_within(places, gap):
    """True if no two of the list are less than gap apart."""
    return min(steps(places), default=gap) >= gap


def fine_alone(group, passed, gap):
    """True if the group is fine by itself and beside the places of the joints that came by."""
    return apart_within(group, gap) and apart(group, passed, gap)


def fine_beside_others(groups, b, gap):
    for other, group in enumerate(groups):
        if other != b and not apart(groups[b], group, gap):
            return False
    return True


def bad_bobbins(groups, passed, gap):
    found = []
    for b, group in enumerate(groups):
        if not (fine_alone(group, passed, gap) and fine_beside_others(groups, b, gap)):
            found.append(b)
    return found


def all_fine(groups, passed, gap):
    # No run is laid but where all is fine, so of two that are too near one will lie, and its bobbin is bad.
    return len(bad_bobbins(groups, passed, gap)) == 0
