"""Which worlds fit.

Once it is known how the terms are ordered, every claim says only how much more one number is than another at most:
the numbers are 0, the terms, and what each array has at each rank's place. Other places ask for nothing more, since
an array may have there what it has at the nearest place below that a term is.
"""

from arrayreach.gaps import equate, limit, no_gaps, settle
from arrayreach.rankings import all_rankings

BOUND_KIND = 0
LEAST_KIND = 1
MOST_KIND = 2
RISING_KIND = 3


# The number's name for what array a has at the place of this rank. There are never more ranks than terms.
def cell(ranks, a, rank):
    return 1 + len(ranks) + a * len(ranks) + rank


def order_terms(gaps, ranks):
    for t in range(len(ranks)):
        for u in range(len(ranks)):
            if ranks[t] < ranks[u]:
                limit(gaps, t + 1, u + 1, -1)
            elif ranks[t] == ranks[u]:
                limit(gaps, t + 1, u + 1, 0)


def read_terms(gaps, ranks, terms):
    for t in range(len(terms)):
        term = terms[t]
        if len(term) > 1:
            equate(gaps, t + 1, cell(ranks, term[1], ranks[term[2] - 1]))


def bind_by_least_or_most(gaps, ranks, kind, told):
    v = told[3]
    for rank in range(ranks[told[1] - 1], ranks[told[2] - 1] + 1):
        here = cell(ranks, told[0], rank)
        if kind == LEAST_KIND:
            limit(gaps, v, here, 0)
        else:
            limit(gaps, here, v, 0)


def bind_by_rising(gaps, ranks, told):
    for rank in range(ranks[told[1] - 1], ranks[told[2] - 1]):
        limit(gaps, cell(ranks, told[0], rank), cell(ranks, told[0], rank + 1), 0)


def bind_by_alike(gaps, ranks, told):
    for rank in range(ranks[told[2] - 1], ranks[told[3] - 1] + 1):
        equate(gaps, cell(ranks, told[0], rank), cell(ranks, told[1], rank))


def bind(gaps, ranks, claim):
    kind = claim[1]
    told = claim[2]
    if kind == BOUND_KIND:
        limit(gaps, told[0], told[1], told[2])
    elif kind == LEAST_KIND or kind == MOST_KIND:
        bind_by_least_or_most(gaps, ranks, kind, told)
    elif kind == RISING_KIND:
        bind_by_rising(gaps, ranks, told)
    else:
        bind_by_alike(gaps, ranks, told)


# All that is known of the numbers in a world that fits and is ordered by these ranks, not settled yet.
def gaps_of(arrays, terms, claims, ranks):
    gaps = no_gaps(1 + len(terms) + arrays * len(terms))
    order_terms(gaps, ranks)
    read_terms(gaps, ranks, terms)
    for claim in claims:
        bind(gaps, ranks, claim)
    return gaps


# For each way in which worlds that fit are ordered, the gaps of 0 and the terms in these worlds, settled.
def ways_that_fit(arrays, terms, claims):
    ways = []
    count = 1 + len(terms)
    for ranks in all_rankings(len(terms)):
        gaps = gaps_of(arrays, terms, claims, ranks)
        if settle(gaps, count):
            ways.append([row[:count] for row in gaps[:count]])
    return ways


def any_world_fits(arrays, terms, claims):
    for ranks in all_rankings(len(terms)):
        if settle(gaps_of(arrays, terms, claims, ranks), 0):
            return True
    return False
