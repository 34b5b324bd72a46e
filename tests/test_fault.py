"""decide where no world fits: the claims at fault."""

import unittest

from lines import alike, back, bound, decide, drop, equal, least, mark, most, orders, read, rising, start, told, unknown


class Bounds(unittest.TestCase):
    def test_one_claim_alone(self):
        self.assertEqual(told(bound(0, 0, -1), decide()), [0, 1])
        self.assertEqual(told(unknown(), bound(1, 1, -1), decide()), [0, 1])

    def test_two_that_contradict_each_other(self):
        self.assertEqual(told(unknown(), bound(1, 0, -1), bound(0, 1, 0), decide()), [0, 1, 2])
        self.assertEqual(told(unknown(), bound(1, 0, -100000), bound(0, 1, 99999), decide()), [0, 1, 2])
        self.assertEqual(told(unknown(), bound(1, 0, -100000), bound(0, 1, 100000), decide())[0], 1)

    def test_a_circle_of_terms(self):
        circle = (bound(1, 2, 3), bound(2, 3, -5), bound(3, 4, 1), bound(4, 1, 0))
        self.assertEqual(told(*[unknown()] * 4, *circle, decide()), [0, 1, 2, 3, 4])
        self.assertEqual(told(*[unknown()] * 4, *circle[:3], bound(4, 1, 1), decide())[0], 1)

    def test_claims_not_at_fault_are_left_out(self):
        self.assertEqual(told(unknown(), unknown(), bound(2, 0, 5), bound(1, 0, -1), bound(1, 2, 0), bound(0, 1, 0),
                              bound(0, 2, 5), decide()), [0, 2, 4])


class SeveralSetsWouldDo(unittest.TestCase):
    def test_the_same_claim_twice(self):
        self.assertEqual(told(unknown(), bound(1, 0, -1), bound(1, 0, -1), bound(0, 1, 0), decide()), [0, 2, 3])
        self.assertEqual(told(unknown(), bound(0, 1, 0), bound(1, 0, -1), bound(1, 0, -1), decide()), [0, 1, 3])

    def test_what_comes_first_is_left_out_first(self):
        self.assertEqual(told(unknown(), bound(0, 0, -1), bound(1, 0, -1), bound(0, 1, 0), decide()), [0, 2, 3])
        self.assertEqual(told(unknown(), bound(1, 0, -1), bound(0, 1, 0), bound(0, 0, -1), decide()), [0, 3])
        self.assertEqual(told(unknown(), bound(1, 0, -1), bound(0, 0, -1), bound(0, 1, 0), decide()), [0, 2])

    def test_what_was_left_out_stays_out(self):
        # Claims 1 and 4, or 2 and 3: once 1 is out, 2 and 3 must stay.
        self.assertEqual(told(unknown(), unknown(), bound(1, 0, -1), bound(2, 0, -1), bound(0, 2, 0), bound(0, 1, 0),
                              decide()), [0, 2, 3])

    def test_not_the_fewest(self):
        # Claim 1 with 5 would do, but 1 is left out first, as 2 to 5 can't all hold either.
        self.assertEqual(told(unknown(), unknown(), unknown(), bound(1, 0, -1), bound(1, 2, 0), bound(2, 3, 0),
                              bound(3, 0, -1), bound(0, 1, 0), decide()), [0, 2, 3, 4, 5])

    def test_the_numbers_are_those_of_the_claims(self):
        calls = (unknown(), bound(0, 0, 1), bound(1, 0, -1), bound(0, 0, 1), bound(0, 1, 0), drop(1), drop(3))
        self.assertEqual(told(*calls, decide()), [0, 2, 4])
        self.assertEqual(told(*calls, drop(2), bound(1, 0, -5), decide()), [0, 4, 5])
        self.assertEqual(told(unknown(), bound(1, 0, -1), mark(), bound(0, 0, 0), back(), bound(0, 1, 0), decide()),
                         [0, 1, 3])

    def test_ten_claims(self):
        self.assertEqual(told(unknown(), *[bound(1, 0, -1)] * 9, bound(0, 1, 0), decide()), [0, 9, 10])
        self.assertEqual(told(unknown(), bound(0, 1, 0), *[bound(1, 0, -1)] * 9, decide()), [0, 1, 10])


class ArraysAndReads(unittest.TestCase):
    PAIR = (start(2), unknown(), unknown(), read(0, 1), read(0, 2))

    def test_reads_at_one_place(self):
        self.assertEqual(told(*self.PAIR, *equal(1, 2), bound(1, 0, 5), bound(3, 4, -1), decide()), [0, 1, 2, 4])
        self.assertEqual(told(unknown(), read(0, 1), read(0, 1), bound(2, 3, -1), decide()), [0, 1])

    def test_rising(self):
        self.assertEqual(told(*self.PAIR, bound(1, 0, 5), bound(1, 2, 0), rising(0, 1, 2), bound(4, 3, -1), decide()),
                         [0, 2, 3, 4])

    def test_rising_needs_the_places_in_order(self):
        self.assertEqual(told(*self.PAIR, rising(0, 1, 2), bound(4, 3, -1), decide())[0], 1)

    def test_rising_both_ways_round(self):
        # However the places lie, one of the two claims says that the array rises between them.
        self.assertEqual(told(*self.PAIR, rising(0, 1, 2), rising(0, 2, 1), bound(4, 3, -1), bound(1, 2, 0), decide()),
                         [0, 1, 3, 4])

    def test_least_and_most(self):
        calls = (unknown(), unknown(), *equal(1, 0, 3), *equal(2, 0, 4))
        self.assertEqual(told(*calls, least(0, 1, 1, 2), most(0, 1, 2, 1), decide()), [0, 1, 4, 5, 6])
        self.assertEqual(told(*calls, least(0, 2, 2, 2), most(0, 1, 1, 1), rising(0, 1, 2), decide())[0], 1)
        self.assertEqual(told(*calls, least(0, 1, 1, 2), most(0, 2, 2, 1), rising(0, 1, 2), decide()),
                         [0, 1, 4, 5, 6, 7])

    def test_least_of_a_read(self):
        self.assertEqual(told(*self.PAIR, least(0, 1, 1, 0), bound(4, 0, -1), bound(3, 4, 0), decide()), [0, 1, 2, 3])

    def test_alike(self):
        calls = (start(3), unknown(), read(0, 1), read(2, 1))
        self.assertEqual(told(*calls, alike(0, 1, 1, 1), alike(1, 2, 1, 1), alike(0, 0, 1, 1), bound(2, 3, -1),
                              decide()), [0, 1, 2, 4])
        self.assertEqual(told(*calls, alike(0, 1, 1, 1), alike(1, 2, 1, 1), alike(2, 0, 1, 1), bound(2, 3, -1),
                              decide()), [0, 3, 4])

    def test_arrays_and_reads_together(self):
        # From place 1 to 2 array 0 rises and is what array 1 is, which is 0 or less at 2: so 3, read at 1, isn't 1.
        self.assertEqual(told(start(2), unknown(), unknown(), read(0, 1), bound(2, 0, 50), rising(0, 1, 2),
                              alike(0, 1, 1, 2), most(1, 2, 2, 0), bound(1, 2, 0), bound(0, 3, -1), decide()),
                         [0, 2, 3, 4, 5, 6])

    def test_a_read_of_a_read(self):
        # Term 2 is term 1, so term 3 is it, too.
        self.assertEqual(told(unknown(), read(0, 1), read(0, 2), bound(3, 0, 9), *equal(1, 2), bound(1, 3, -1),
                              decide()), [0, 2, 3, 4])


class WhatIsLeft(unittest.TestCase):
    LINES = (
        (unknown(), unknown(), bound(1, 2, -1), bound(2, 1, -1), bound(1, 0, -1), bound(0, 1, -1), bound(2, 0, 3)),
        (start(2), unknown(), unknown(), read(0, 1), read(1, 2), rising(0, 1, 2), alike(0, 1, 2, 2), bound(1, 2, -1),
         bound(4, 3, -1), least(0, 2, 2, 3), most(1, 2, 2, 3), bound(4, 3, -2)),
    )

    def test_can_not_all_hold_but_can_without_any_one(self):
        for calls in self.LINES:
            fault = told(*calls, decide())
            self.assertEqual(fault[0], 0)
            count = sum(3 <= call[0] <= 7 for call in calls)
            others = [drop(k) for k in range(1, count + 1) if k not in fault[1:]]
            self.assertEqual(told(*calls, *others, orders()), [0])
            for k in fault[1:]:
                self.assertNotEqual(told(*calls, *others, drop(k), orders()), [0])


if __name__ == "__main__":
    unittest.main()
