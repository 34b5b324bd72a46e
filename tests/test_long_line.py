"""Forty calls on one object, asked again and again while terms and claims come and go."""

import unittest

from arrayreach.reach import answers
from lines import (alike, asked, back, bound, decide, drop, equal, least, line, mark, most, orders, read, rising,
                   shows, span, start, surely, unknown)

SETTING = (start(3), unknown(), unknown(), read(0, 1), read(2, 2))
CLAIMS = (bound(1, 2, -1), rising(0, 1, 2), alike(0, 1, 1, 2), alike(1, 2, 2, 2), bound(0, 3, -4), least(1, 1, 2, 0),
          most(2, 2, 2, 0), bound(4, 3, 10), bound(2, 1, 5), bound(1, 0, 7))
ASKS = (decide(), surely(3, 4, 0), span(4), orders())


class FortyCalls(unittest.TestCase):
    def test_full_and_no_world_fits(self):
        # Array 2 is 0 or less at place 2, and it is array 0 there, which has 4 or more.
        calls = (*SETTING, *CLAIMS, *ASKS * 6, decide())
        self.assertEqual(len(calls), 40)
        each = asked(*calls)
        self.assertEqual(each[:15], [[3]] + [[k] for k in range(1, 5)] + [[k] for k in range(1, 11)])
        self.assertEqual(each[15:], [[0, 1, 2, 3, 4, 5, 7], [-6], [-6], [0]] * 6 + [[0, 1, 2, 3, 4, 5, 7]])

    def test_full_and_a_world_fits(self):
        calls = (*SETTING, *CLAIMS[:6], most(2, 2, 2, 1), *CLAIMS[7:], *ASKS * 6, decide())
        self.assertEqual(len(calls), 40)
        # Array 2 has what 1 is or less at place 2: so 3 is at most 4, this at most 1, and 1 less than 2.
        world = [1, 4, 4, 5, 4, 4, 2, 4, 5, 3, 4, 4, 4, 4, 0, 4]
        self.assertEqual(asked(*calls)[15:], [world, [1], [1, 4, 1, 7], [4]] * 6 + [world])

    def test_a_claim_dropped_and_told_again_between_asks(self):
        change = (drop(7), decide(), most(2, 2, 2, 0), decide())
        calls = (*SETTING, *CLAIMS, decide(), *change, drop(11), decide(), orders(), span(3), surely(0, 3, -4))
        # 1 is less than 2, and 3 is 4 (5 ways) or less (13).
        fault = [0, 1, 2, 3, 4, 5]
        world = [1, 4, 0, 1, 4, 4, 3, 0, 1, 4, 3, 4, 4, 0, 4, 4, 0, 0, 4, 0]
        self.assertEqual(asked(*calls)[15:], [fault + [7], [9], world, [11], fault + [11], [9], world, [18], [1, 4, 0],
                                              [1]])


class AsksInBetween(unittest.TestCase):
    """What's asked on the way doesn't change what is answered later, nor is it what was answered before."""

    LINES = (
        (*SETTING, *CLAIMS),
        (unknown(), bound(1, 0, -2), mark(), unknown(), bound(2, 1, -2), drop(1), back(), start(2), unknown()),
        (unknown(), unknown(), mark(), *equal(1, 2, 3), drop(2), read(0, 1), mark(), bound(3, 3, -1), back(), back()),
        (start(2), unknown(), start(3), unknown(), bound(0, 1, -3), start(4), drop(9), back(), bound(1, 0, 1)),
    )

    def test_each_call_with_asks_before_and_behind(self):
        asks = (decide(), orders(), span(1), surely(1, 0, 0), shows())
        for calls in self.LINES:
            for count in range(len(calls)):
                for behind in asks:
                    with self.subTest(calls=calls[:count + 1], behind=behind):
                        plain = asked(*calls[:count + 1], behind)
                        between = asked(*calls[:count], *asks, calls[count], behind)
                        self.assertEqual(between[-2:], plain[-2:])

    def test_the_same_twice(self):
        for calls in self.LINES:
            whole = line(*calls, *ASKS)
            kept = list(whole)
            self.assertEqual(answers(whole), answers(whole))
            self.assertEqual(whole, kept)


if __name__ == "__main__":
    unittest.main()
