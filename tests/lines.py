"""Calls as they stand in the list that is handed in, and answers taken apart again."""

from arrayreach.reach import answers

HIGHEST = 4294967295
LOWEST_C = -2147483648
HIGHEST_C = 2147483647


def start(a):
    return [0, a]


def unknown():
    return [1]


def read(a, i):
    return [2, a, i]


def bound(t, u, c):
    return [3, t, u, c]


def least(a, i, j, v):
    return [4, a, i, j, v]


def most(a, i, j, v):
    return [5, a, i, j, v]


def rising(a, i, j):
    return [6, a, i, j]


def alike(a, b, i, j):
    return [7, a, b, i, j]


def drop(k):
    return [8, k]


def mark():
    return [9]


def back():
    return [10]


def decide():
    return [11]


def surely(t, u, c):
    return [12, t, u, c]


def span(t):
    """The call range."""
    return [13, t]


def orders():
    return [14]


def shows():
    return [15]


def equal(t, u, c=0):
    """Two claims: t is c more than u, neither more nor less."""
    return bound(t, u, c), bound(u, t, -c)


def line(*calls):
    return [number for call in calls for number in call]


def asked(*calls):
    """What each of the calls answers, as a list of lists."""
    given_back = answers(line(*calls))
    each = []
    at = 0
    while at < len(given_back):
        behind = at + 1 + given_back[at]
        each.append(given_back[at + 1:behind])
        at = behind
    return each


def told(*calls):
    """All that the last of the calls answers."""
    each = asked(*calls)
    if len(each) != len(calls):
        raise AssertionError(f"{len(each)} answers to {len(calls)} calls: {each}")
    return each[-1]


def last(*calls):
    """The one number that the last of the calls answers."""
    answer = told(*calls)
    if len(answer) != 1:
        raise AssertionError(f"not one number for the last of {len(calls)} calls: {answer}")
    return answer[0]
