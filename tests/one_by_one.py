"""Worlds gone through one by one, in a small span, with nothing but the words that say what holds in them.

A term is None if it is unknown, (a, i) if it is read; a claim is the call that tells it. Arrays are looked at within
the span alone, and have numbers of the span alone. That leaves nothing out if all terms and 0 lie in it: no claim
speaks of places beyond, and a number beyond may be replaced by the span's nearest end in all arrays at once.
"""

import itertools

from lines import read, start, unknown

BOUND, LEAST, MOST, RISING, ALIKE = 3, 4, 5, 6, 7


def holds(claim, values, arrays):
    kind, told = claim[0], claim[1:]
    if kind == BOUND:
        t, u, c = told
        return values[t] <= values[u] + c
    if kind == ALIKE:
        a, b, i, j = told
        return all(arrays[a][place] == arrays[b][place] for place in range(values[i], values[j] + 1))
    a, i, j = told[:3]
    places = range(values[i], values[j] + 1)
    if kind == LEAST:
        return all(arrays[a][place] >= values[told[3]] for place in places)
    if kind == MOST:
        return all(arrays[a][place] <= values[told[3]] for place in places)
    return all(arrays[a][place] <= arrays[a][later] for place in places for later in places if place < later)


def values_of(terms, unknowns, arrays):
    """What 0 and each term is; None for a read term if the arrays aren't given."""
    values = [0]
    given = iter(unknowns)
    for term in terms:
        if term is None:
            values.append(next(given))
        else:
            values.append(arrays[term[0]][values[term[1]]] if arrays else None)
    return values


def can_hold(terms, claims, unknowns):
    """Whether the bounds of unknown terms hold: if not, no array needs to be looked at."""
    values = values_of(terms, unknowns, None)
    return all(holds(claim, values, None) for claim in claims
               if claim[0] == BOUND and values[claim[1]] is not None and values[claim[2]] is not None)


def worlds(count, terms, claims, low, high):
    """Each world that fits, as what 0 and the terms are and what the arrays have."""
    numbers = range(low, high + 1)
    each_array = [dict(zip(numbers, row)) for row in itertools.product(numbers, repeat=len(numbers))]
    for unknowns in itertools.product(numbers, repeat=terms.count(None)):
        if can_hold(terms, claims, unknowns):
            for arrays in itertools.product(each_array, repeat=count):
                values = values_of(terms, unknowns, arrays)
                if all(holds(claim, values, arrays) for claim in claims):
                    yield values, arrays


def cells(values, arrays):
    return [array[place] for array in arrays for place in sorted(set(values[1:]))]


def nearness(world):
    """The less, the sooner it's told."""
    values, arrays = world
    return [(abs(number), -number) for number in values[1:] + cells(values, arrays)]


def decided(found):
    """What decide answers if these are the worlds that fit."""
    values, arrays = min(found, key=nearness)
    places = sorted(set(values[1:]))
    return [1, len(values) - 1, *values[1:], len(places), *places, len(arrays), *cells(values, arrays)]


def in_how_many_orders(found):
    return len({tuple((t > u) - (t < u) for t in values[1:] for u in values[1:]) for values, arrays in found})


def ends(found, t, u):
    """The least and the most that t is more than u."""
    gaps = [values[t] - values[u] for values, arrays in found]
    return min(gaps), max(gaps)


def at_fault(count, terms, claims, low, high):
    left = list(range(len(claims)))
    for k in range(len(claims)):
        fewer = [other for other in left if other != k]
        if not any(True for world in worlds(count, terms, [claims[other] for other in fewer], low, high)):
            left = fewer
    return [k + 1 for k in left]


def calls_of(count, terms, claims):
    return [start(count)] + [unknown() if term is None else read(*term) for term in terms] + claims


def some_terms(chance, count, how_many, most_unknown):
    terms = [None]
    while len(terms) < how_many:
        if terms.count(None) < most_unknown and chance.random() < 0.5:
            terms.append(None)
        else:
            terms.append((chance.randrange(count), chance.randint(1, len(terms))))
    return terms


def some_claim(chance, count, how_many, low_c, high_c):
    kind = chance.choice((BOUND, LEAST, MOST, RISING, ALIKE))
    a, b = chance.randrange(count), chance.randrange(count)
    i, j = chance.randint(1, how_many), chance.randint(1, how_many)
    v, u = chance.randint(0, how_many), chance.randint(0, how_many)
    return {BOUND: [BOUND, v, u, chance.randint(low_c, high_c)], LEAST: [LEAST, a, i, j, v], MOST: [MOST, a, i, j, v],
            RISING: [RISING, a, i, j], ALIKE: [ALIKE, a, b, i, j]}[kind]
