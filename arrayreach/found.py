"""What can be said of the worlds that fit, and of the claims when none does.

The ways are the gaps of 0 and the terms, one for each way in which worlds that fit are ordered.
"""

from arrayreach.gaps import can_be, copied, fix, nearest_to_0, settle
from arrayreach.rankings import how_many_ranks
from arrayreach.worlds import any_world_fits, cell, gaps_of


def nearest_term(ways, t):
    values = [nearest_to_0(gaps, t) for gaps in ways]
    # Of two as near to 0 the greater.
    return min(values, key=lambda value: (abs(value), -value))


def ways_with(ways, t, value):
    left = []
    for gaps in ways:
        if can_be(gaps, t, value):
            # The ways themselves are asked again later on.
            narrowed = copied(gaps)
            fix(narrowed, t, value)
            left.append(narrowed)
    return left


def told_terms(ways, count):
    values = []
    left = ways
    for t in range(1, count + 1):
        value = nearest_term(left, t)
        values.append(value)
        left = ways_with(left, t, value)
    return values


def ranks_of(values):
    rising = sorted(set(values))
    return tuple([rising.index(value) for value in values])


# What each array has at the places that the terms are, array by array.
def told_cells(arrays, terms, claims, values):
    ranks = ranks_of(values)
    gaps = gaps_of(arrays, terms, claims, ranks)
    settle(gaps, len(gaps))
    for t in range(len(values)):
        fix(gaps, t + 1, values[t])
    cells = []
    for a in range(arrays):
        for rank in range(how_many_ranks(ranks)):
            here = cell(ranks, a, rank)
            value = nearest_to_0(gaps, here)
            fix(gaps, here, value)
            cells.append(value)
    return cells


def told_world(arrays, terms, claims, ways):
    values = told_terms(ways, len(terms))
    places = sorted(set(values))
    cells = told_cells(arrays, terms, claims, values)
    return [len(values)] + values + [len(places)] + places + [arrays] + cells


def claims_at_fault(arrays, terms, claims):
    left = claims
    for claim in claims:
        fewer = [other for other in left if other[0] != claim[0]]
        if not any_world_fits(arrays, terms, fewer):
            left = fewer
    return [claim[0] for claim in left]


# How much more t is than u at most in any world that fits; None if there is no most.
def farthest(ways, t, u):
    most = [gaps[t][u] for gaps in ways]
    return None if None in most else max(most)


def how_surely(ways, t, u, c):
    most = farthest(ways, t, u)
    if most is not None and most <= c:
        return 1
    back = farthest(ways, u, t)
    if back is not None and -back > c:
        return 0
    return 2


def least_and_greatest(ways, t):
    below = farthest(ways, 0, t)
    above = farthest(ways, t, 0)
    least = [0] if below is None else [1, -below]
    greatest = [0] if above is None else [1, above]
    return least + greatest
