"""The calls on one set of arrays, terms and claims, and what they answer."""

MOST_ARRAYS = 3
MOST_TERMS = 4
MOST_CLAIMS = 10
FARTHEST = 100000

NOT_IN_RANGE = -1
NOT_THERE = -2
NO_ROOM = -5

START = 0
UNKNOWN = 1
READ = 2
BOUND = 3
LEAST = 4
MOST = 5
RISING = 6
ALIKE = 7

# How many numbers each call has behind its own, by the call's number.
WIDTHS = (1, 0, 2, 3, 4, 4, 3, 4)


# What has been told so far. A term is (0,) if it is unknown, (1, a, i) if it is read;
# a claim is its number, its kind and the tuple of what was told with it.
class Known:
    def __init__(self):
        self.arrays = 1
        self.terms = []
        self.claims = []
        self.next_number = 1


def has_array(known, a):
    return a < known.arrays


def has_term(known, t):
    return t > 0 and t <= len(known.terms)


def has_value(known, t):
    return t == 0 or has_term(known, t)


def has_stretch(known, a, i, j):
    return has_array(known, a) and has_term(known, i) and has_term(known, j)


def add_term(known, term):
    if len(known.terms) >= MOST_TERMS:
        return [NO_ROOM]
    known.terms.append(term)
    return [len(known.terms)]


def add_claim(known, call, told):
    if len(known.claims) >= MOST_CLAIMS:
        return [NO_ROOM]
    number = known.next_number
    # The claims' calls come one after another: so do their kinds, 0 bound to 4 alike.
    known.claims.append((number, call - BOUND, told))
    # Not counted from the claims that stand: a number is never used twice.
    known.next_number = number + 1
    return [number]


def start(known, a):
    if a < 1 or a > MOST_ARRAYS:
        return [NOT_IN_RANGE]
    known.arrays = a
    known.terms = []
    known.claims = []
    known.next_number = 1
    return [a]


def unknown(known):
    return add_term(known, (0,))


def read(known, a, i):
    if not (has_array(known, a) and has_term(known, i)):
        return [NOT_THERE]
    return add_term(known, (1, a, i))


def bound(known, t, u, c):
    if not (has_value(known, t) and has_value(known, u)):
        return [NOT_THERE]
    if c < -FARTHEST or c > FARTHEST:
        return [NOT_IN_RANGE]
    return add_claim(known, BOUND, (t, u, c))


def least_or_most(known, call, a, i, j, v):
    if not (has_stretch(known, a, i, j) and has_value(known, v)):
        return [NOT_THERE]
    return add_claim(known, call, (a, i, j, v))


def rising(known, a, i, j):
    if not has_stretch(known, a, i, j):
        return [NOT_THERE]
    return add_claim(known, RISING, (a, i, j))


def alike(known, a, b, i, j):
    if not (has_array(known, b) and has_stretch(known, a, i, j)):
        return [NOT_THERE]
    return add_claim(known, ALIKE, (a, b, i, j))


def ask(known, call, given):
    if call == START:
        return start(known, given[0])
    if call == UNKNOWN:
        return unknown(known)
    if call == READ:
        return read(known, given[0], given[1])
    if call == BOUND:
        return bound(known, given[0], given[1], given[2])
    if call == LEAST or call == MOST:
        return least_or_most(known, call, given[0], given[1], given[2], given[3])
    if call == RISING:
        return rising(known, given[0], given[1], given[2])
    return alike(known, given[0], given[1], given[2], given[3])


def answers(calls):
    known = Known()
    told = []
    at = 0
    while at < len(calls):
        call = calls[at]
        behind = at + 1 + WIDTHS[call]
        answer = ask(known, call, calls[at + 1:behind])
        told.append(len(answer))
        told.extend(answer)
        at = behind
    return told
