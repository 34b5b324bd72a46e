"""Numbers of which it is known how much more one is than another at most.

The numbers are named 0, 1, ...; gaps[x][y] is how much more x is than y at most, None if nothing is known of it.
Number 0 is 0 itself, so that gaps[x][0] is the greatest that x can be.
"""


def no_gaps(size):
    gaps = []
    for x in range(size):
        row = [None] * size
        row[x] = 0
        gaps.append(row)
    return gaps


def copied(gaps):
    return [list(row) for row in gaps]


def limit(gaps, x, y, c):
    if gaps[x][y] is None or c < gaps[x][y]:
        gaps[x][y] = c


def equate(gaps, x, y):
    limit(gaps, x, y, 0)
    limit(gaps, y, x, 0)


# Among the first numbers, so many as count says: x is at most so much more than y as x than middle and middle than y.
def pass_through(gaps, middle, count):
    onward = gaps[middle]
    # Most rows know little: only what is known is gone through.
    known = [y for y in range(count) if onward[y] is not None]
    for x in range(count):
        row = gaps[x]
        far = row[middle]
        if far is not None:
            for y in known:
                if row[y] is None or far + onward[y] < row[y]:
                    row[y] = far + onward[y]


# Answers whether there are such numbers. If so, all that follows for the first ones, so many as count says, is in gaps.
# The others come first and are done with then: what was known of them has been passed on to those that are left.
def settle(gaps, count):
    for middle in range(len(gaps) - 1, -1, -1):
        if gaps[middle][middle] < 0:
            return False
        pass_through(gaps, middle, max(middle, count))
    return True


# The gaps are settled, and x can be this value. What the others can be then is all that is asked behind it, and it
# goes by way of x alone: so how far they are from 0 is renewed, but not how far they are from one another.
def fix(gaps, x, value):
    for y in range(len(gaps)):
        if gaps[y][x] is not None:
            limit(gaps, y, 0, gaps[y][x] + value)
        if gaps[x][y] is not None:
            limit(gaps, 0, y, gaps[x][y] - value)


def can_be(gaps, x, value):
    if gaps[x][0] is not None and value > gaps[x][0]:
        return False
    return gaps[0][x] is None or -value <= gaps[0][x]


def nearest_to_0(gaps, x):
    if gaps[x][0] is not None and gaps[x][0] < 0:
        return gaps[x][0]
    if gaps[0][x] is not None and gaps[0][x] < 0:
        return -gaps[0][x]
    return 0
