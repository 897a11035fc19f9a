"""Laying: the cables that join all masts that can be joined and are the shortest together."""

from mastline.errors import NoMast


def is_mast(count, number):
    return number >= 0 and number < count


# The words tell the place, not the number: a number may have more figures than Python writes as a text.
def refuse_stray_cables(count, cables):
    for place, cable in enumerate(cables):
        if not is_mast(count, cable[0]) or not is_mast(count, cable[1]):
            raise NoMast(f"the cable at place {place} names a number that is no mast's")


def in_turn(cables):
    return sorted(range(len(cables)), key=lambda place: (cables[place][2], place))


def with_groups_joined(groups, kept, gone):
    return [kept if group == gone else group for group in groups]


# Each mast bears the number of its group, and masts of one group are those joined so far;
# with a hundred masts, writing all the numbers anew at each laid cable is cheap enough.
def laid(count, cables):
    refuse_stray_cables(count, cables)
    groups = list(range(count))
    places = []
    for place in in_turn(cables):
        one = groups[cables[place][0]]
        other = groups[cables[place][1]]
        if one != other:
            places.append(place)
            groups = with_groups_joined(groups, one, other)
    return sorted(places)


def total(count, cables):
    return sum([cables[place][2] for place in laid(count, cables)])
