"""The way to cut wire off the bobbins that makes all fine and cuts least.

A way is a list: of each bobbin, how many metres are cut off. options[b][metres] is the group of places
at which bobbin b's joints will lie once so many metres of it are cut off.
"""

from laidstrands.nearness import apart, fine_alone

MOST_CUT = 8


def options_of(bobbin, laid):
    return [bobbin.places_behind(laid, metres) for metres in range(min(MOST_CUT, bobbin.left) + 1)]


def cuts_fine_alone(groups, passed, gap):
    return [metres for metres, group in enumerate(groups) if fine_alone(group, passed, gap)]


def agreeing_cuts(options, single, gap):
    """Keys (bobbin, its cut, later bobbin, its cut): behind these cuts the two bobbins lie far enough apart."""
    # Each pair of cuts stands in many ways, so it is looked at once, ahead of the search.
    agreeing = {}
    for later in range(len(options)):
        for b in range(later):
            for metres in single[b]:
                for more in single[later]:
                    if apart(options[b][metres], options[later][more], gap):
                        agreeing[(b, metres, later, more)] = True
    return agreeing


def agrees(agreeing, chosen, metres):
    for b, taken in enumerate(chosen):
        if (b, taken, len(chosen), metres) not in agreeing:
            return False
    return True


def way_of_total(single, agreeing, chosen, rest):
    """The first fine way that begins as chosen and cuts rest metres of the bobbins behind; None if there is none."""
    b = len(chosen)
    if b == len(single):
        return chosen if rest == 0 else None
    room_behind = MOST_CUT * (len(single) - b - 1)
    for metres in single[b]:
        if rest - room_behind <= metres <= rest and agrees(agreeing, chosen, metres):
            way = way_of_total(single, agreeing, chosen + [metres], rest - metres)
            if way is not None:
                return way
    return None


def least_way(options, passed, gap):
    """The way that cuts least, of like ones less of the first bobbin at which they differ; None if there is none."""
    single = [cuts_fine_alone(groups, passed, gap) for groups in options]
    agreeing = agreeing_cuts(options, single, gap)
    for total in range(MOST_CUT * len(options) + 1):
        way = way_of_total(single, agreeing, [], total)
        if way is not None:
            return way
    return None
