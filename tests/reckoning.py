"""What the tests share: inputs, and another way of reckoning that uses nothing of the program."""

import itertools
import random

LONG = 10 ** 99


def reached(cables, places, start):
    """The masts that one can come to from `start` over the cables at `places`."""
    found = {start}
    grown = True
    while grown:
        grown = False
        for place in places:
            one, other = cables[place][:2]
            if (one in found) != (other in found):
                found |= {one, other}
                grown = True
    return found


def joined(count, cables, places):
    """For each mast, the masts with which the cables at `places` join it."""
    return [reached(cables, places, mast) for mast in range(count)]


def is_before(cables, place, than):
    """Point 3."""
    if cables[place][2] != cables[than][2]:
        return cables[place][2] < cables[than][2]
    return place < than


def laid_by_the_words(cables):
    """Point 5 word by word: each time the cable that is before all that are still to come."""
    to_come = list(range(len(cables)))
    chosen = []
    while to_come:
        first = next(p for p in to_come if all(p == q or is_before(cables, p, q) for q in to_come))
        to_come.remove(first)
        one, other = cables[first][:2]
        if other not in reached(cables, chosen, one):
            chosen.append(first)
    return sorted(chosen)


def least_together(count, cables):
    """The least sum of lengths among all choices of cables that join what all cables join."""
    asked = joined(count, cables, range(len(cables)))
    sums = []
    for size in range(len(cables) + 1):
        for choice in itertools.combinations(range(len(cables)), size):
            if joined(count, cables, choice) == asked:
                sums.append(sum(cables[place][2] for place in choice))
    return min(sums)


def every_tiny_input():
    """Every list of at most three cables of length 0 or 1 between three masts."""
    kinds = list(itertools.product(range(3), range(3), range(2)))
    for size in range(4):
        for cables in itertools.product(kinds, repeat=size):
            yield 3, list(cables)


def small_inputs():
    """Some inputs of up to six masts and eight cables, the same ones at each run."""
    chance = random.Random(20)
    for lengths in ([0], [0, 1, 2], [3, 5, 8, 13, 21], [0, LONG, LONG + 1, 10 * LONG - 1]):
        for turn in range(25):
            count = chance.randrange(1, 7)
            yield count, [some_cable(chance, count, lengths) for place in range(chance.randrange(9))]


def large_inputs():
    """The greatest that the document tells, and somewhat more, dense and in pieces."""
    chance = random.Random(21)
    for count, size in ((100, 1000), (100, 90), (130, 1300)):
        yield count, [some_cable(chance, count, range(40)) for place in range(size)]


def some_cable(chance, count, lengths):
    return chance.randrange(count), chance.randrange(count), chance.choice(lengths)


def named_inputs():
    """The edges that the document names."""
    yield 0, []
    yield 1, []
    yield 4, []
    yield 1, [(0, 0, 0), (0, 0, 5)]
    yield 2, [(0, 1, 4), (1, 0, 4), (0, 1, 4), (1, 0, 3), (0, 1, 3)]
    yield 3, [(0, 1, 0), (1, 2, 0), (2, 0, 0), (1, 1, 0)]
    yield 3, [(0, 1, LONG + 1), (1, 2, LONG), (2, 0, LONG + 2)]
    yield 6, [(5, 3, 2), (3, 5, 1), (0, 1, 9)]
    yield row_of_masts(100)


def row_of_masts(count):
    """Masts in one row; the cables are named by turns from the one side and from the other."""
    cables = [(m, m + 1, count - m) if m % 2 else (m + 1, m, count - m) for m in range(count - 1)]
    return count, cables


def all_inputs():
    return itertools.chain(named_inputs(), every_tiny_input(), small_inputs(), large_inputs())
