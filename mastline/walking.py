"""Walking: the laid cables unrolled, and the ways over them."""

from mastline.errors import NoMast
from mastline.laying import is_mast, laid


def far_end(cable, mast):
    return cable[1] if cable[0] == mast else cable[0]


def places_by_mast(count, cables, places):
    by_mast = [[] for mast in range(count)]
    for place in places:
        by_mast[cables[place][0]].append(place)
        by_mast[cables[place][1]].append(place)
    return by_mast


# For each mast that is joined with `start`, the laid cable over which one goes back towards `start`.
# The keys stand in the order in which the masts were reached, and `unrolled` relies on it.
def places_back(cables, by_mast, start):
    back = {start: None}
    waiting = [start]
    while len(waiting) > 0:
        mast = waiting.pop()
        for place in by_mast[mast]:
            far = far_end(cables[place], mast)
            if far not in back:
                back[far] = place
                waiting.append(far)
    return back


# Reckoned from the mast where the way ends: going back there tells the cables in the order in which one goes.
def way_between(cables, by_mast, one, other):
    back = places_back(cables, by_mast, other)
    if one not in back:
        return None
    row = []
    mast = one
    while mast != other:
        place = back[mast]
        row.append(place)
        mast = far_end(cables[place], mast)
    return row


def unrolled(count, cables):
    by_mast = places_by_mast(count, cables, laid(count, cables))
    told = {}
    for mast in range(count):
        if mast not in told:
            told.update(places_back(cables, by_mast, mast))
    return list(told.items())


def way(count, cables, one, other):
    by_mast = places_by_mast(count, cables, laid(count, cables))
    if not is_mast(count, one) or not is_mast(count, other):
        raise NoMast("the way is asked for from or to a number that is no mast's")
    return way_between(cables, by_mast, one, other)


def detours(count, cables):
    places = laid(count, cables)
    by_mast = places_by_mast(count, cables, places)
    rows = []
    for place, cable in enumerate(cables):
        if place not in places:
            rows.append((place, way_between(cables, by_mast, cable[0], cable[1])))
    return rows
