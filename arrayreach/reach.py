"""The calls on one set of arrays, terms and claims, and what they answer."""

from arrayreach.found import claims_at_fault, how_surely, least_and_greatest, told_world
from arrayreach.worlds import ways_that_fit

MOST_ARRAYS = 3
MOST_TERMS = 4
MOST_CLAIMS = 10
MOST_MARKS = 8
FARTHEST = 100000

NOT_IN_RANGE = -1
NOT_THERE = -2
NO_CLAIM = -3
NO_ROOM = -5
NO_WORLD = -6
NO_MARK = -7

START = 0
UNKNOWN = 1
READ = 2
BOUND = 3
LEAST = 4
MOST = 5
RISING = 6
ALIKE = 7
DROP = 8
MARK = 9
BACK = 10
DECIDE = 11
SURELY = 12
RANGE = 13
ORDERS = 14

# How many numbers each call has behind its own, by the call's number.
WIDTHS = (1, 0, 2, 3, 4, 4, 3, 4, 1, 0, 0, 0, 3, 1, 0, 0)


# What has been told so far. A term is (0,) if it is unknown, (1, a, i) if it is read;
# a claim is its number, its kind and the tuple of what was told with it;
# a mark is the terms and the claims as they were.
class Known:
    def __init__(self):
        self.arrays = 1
        self.terms = []
        self.claims = []
        self.marks = []
        self.next_number = 1
        # Found when first asked for: they're the same until a term or a claim comes or goes.
        self.ways = None
        self.decided = None


def forget_what_was_found(known):
    known.ways = None
    known.decided = None


def ways_of(known):
    if known.ways is None:
        known.ways = ways_that_fit(known.arrays, known.terms, known.claims)
    return known.ways


def has_array(known, a):
    return a < known.arrays


def has_term(known, t):
    return t > 0 and t <= len(known.terms)


def has_value(known, t):
    return t == 0 or has_term(known, t)


def has_stretch(known, a, i, j):
    return has_array(known, a) and has_term(known, i) and has_term(known, j)


def is_near(c):
    return c >= -FARTHEST and c <= FARTHEST


def add_term(known, term):
    if len(known.terms) >= MOST_TERMS:
        return [NO_ROOM]
    known.terms.append(term)
    forget_what_was_found(known)
    return [len(known.terms)]


def add_claim(known, call, told):
    if len(known.claims) >= MOST_CLAIMS:
        return [NO_ROOM]
    number = known.next_number
    # The claims' calls come one after another: so do their kinds, 0 bound to 4 alike.
    known.claims.append((number, call - BOUND, told))
    # Not counted from the claims that stand: a number is never used twice.
    known.next_number = number + 1
    forget_what_was_found(known)
    return [number]


def start(known, a):
    if a < 1 or a > MOST_ARRAYS:
        return [NOT_IN_RANGE]
    known.arrays = a
    known.terms = []
    known.claims = []
    known.marks = []
    known.next_number = 1
    forget_what_was_found(known)
    return [a]


def unknown(known):
    return add_term(known, (0,))


def read(known, a, i):
    if not (has_array(known, a) and has_term(known, i)):
        return [NOT_THERE]
    return add_term(known, (1, a, i))


def bound(known, t, u, c):
    if not (has_value(known, t) and has_value(known, u)):
        return [NOT_THERE]
    if not is_near(c):
        return [NOT_IN_RANGE]
    return add_claim(known, BOUND, (t, u, c))


def least_or_most(known, call, a, i, j, v):
    if not (has_stretch(known, a, i, j) and has_value(known, v)):
        return [NOT_THERE]
    return add_claim(known, call, (a, i, j, v))


def rising(known, a, i, j):
    if not has_stretch(known, a, i, j):
        return [NOT_THERE]
    return add_claim(known, RISING, (a, i, j))


def alike(known, a, b, i, j):
    if not (has_array(known, b) and has_stretch(known, a, i, j)):
        return [NOT_THERE]
    return add_claim(known, ALIKE, (a, b, i, j))


def drop(known, k):
    left = [claim for claim in known.claims if claim[0] != k]
    if len(left) == len(known.claims):
        return [NO_CLAIM]
    known.claims = left
    forget_what_was_found(known)
    return [len(left)]


def mark(known):
    if len(known.marks) >= MOST_MARKS:
        return [NO_ROOM]
    known.marks.append((list(known.terms), list(known.claims)))
    return [len(known.marks)]


def back(known):
    if len(known.marks) == 0:
        return [NO_MARK]
    marked = known.marks.pop()
    known.terms = marked[0]
    known.claims = marked[1]
    forget_what_was_found(known)
    return [len(known.terms), len(known.claims)]


def decide(known):
    if known.decided is None:
        ways = ways_of(known)
        if len(ways) > 0:
            known.decided = [1] + told_world(known.arrays, known.terms, known.claims, ways)
        else:
            known.decided = [0] + claims_at_fault(known.arrays, known.terms, known.claims)
    return known.decided


def surely(known, t, u, c):
    if not (has_value(known, t) and has_value(known, u)):
        return [NOT_THERE]
    if not is_near(c):
        return [NOT_IN_RANGE]
    if len(ways_of(known)) == 0:
        return [NO_WORLD]
    return [how_surely(ways_of(known), t, u, c)]


def how_far(known, t):
    if not has_term(known, t):
        return [NOT_THERE]
    if len(ways_of(known)) == 0:
        return [NO_WORLD]
    return least_and_greatest(ways_of(known), t)


def shows(known):
    shown = [known.arrays, len(known.terms)]
    for term in known.terms:
        shown.extend(term)
    shown.append(len(known.claims))
    for claim in known.claims:
        shown.extend([claim[0], claim[1]])
        shown.extend(claim[2])
    return shown


def tell_claim(known, call, given):
    if call == BOUND:
        return bound(known, given[0], given[1], given[2])
    if call == LEAST or call == MOST:
        return least_or_most(known, call, given[0], given[1], given[2], given[3])
    if call == RISING:
        return rising(known, given[0], given[1], given[2])
    return alike(known, given[0], given[1], given[2], given[3])


def ask(known, call, given):
    if call == DECIDE:
        return decide(known)
    if call == SURELY:
        return surely(known, given[0], given[1], given[2])
    if call == RANGE:
        return how_far(known, given[0])
    if call == ORDERS:
        return [len(ways_of(known))]
    return shows(known)


def answer_to(known, call, given):
    if call == START:
        return start(known, given[0])
    if call == UNKNOWN:
        return unknown(known)
    if call == READ:
        return read(known, given[0], given[1])
    if call <= ALIKE:
        return tell_claim(known, call, given)
    if call == DROP:
        return drop(known, given[0])
    if call == MARK:
        return mark(known)
    if call == BACK:
        return back(known)
    return ask(known, call, given)


def answers(calls):
    known = Known()
    told = []
    at = 0
    while at < len(calls):
        call = calls[at]
        behind = at + 1 + WIDTHS[call]
        answer = answer_to(known, call, calls[at + 1:behind])
        told.append(len(answer))
        told.extend(answer)
        at = behind
    return told
