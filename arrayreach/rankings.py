"""The ways in which terms can be ordered.

A way is a tuple with each term's rank, from 0 on without a gap: terms of one rank are the same number.
"""


def how_many_ranks(ranks):
    return 1 + max(ranks, default=-1)


def with_one_more(ranks):
    count = how_many_ranks(ranks)
    longer = [ranks + (rank,) for rank in range(count)]
    for new in range(count + 1):
        moved = [rank + 1 if rank >= new else rank for rank in ranks]
        longer.append(tuple(moved) + (new,))
    return longer


def all_rankings(count):
    found = [()]
    for each in range(count):
        longer = []
        for ranks in found:
            longer.extend(with_one_more(ranks))
        found = longer
    return found
