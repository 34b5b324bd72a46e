"""orders: in how many ways the worlds that fit are ordered."""

import unittest

from lines import alike, asked, bound, drop, equal, last, least, most, orders, read, rising, start, unknown


class WithoutClaims(unittest.TestCase):
    def test_no_term(self):
        self.assertEqual(last(orders()), 1)
        self.assertEqual(last(start(3), orders()), 1)

    def test_one_to_four_terms(self):
        for count, ways in ((1, 1), (2, 3), (3, 13), (4, 75)):
            self.assertEqual(last(*[unknown()] * count, orders()), ways)

    def test_reads(self):
        self.assertEqual(last(unknown(), read(0, 1), orders()), 3)
        # Terms 2 and 3 are the same.
        self.assertEqual(last(unknown(), read(0, 1), read(0, 1), orders()), 3)
        # If 1 and 2 are the same, 2 and 3 are: the two ways in which they aren't fall out.
        self.assertEqual(last(unknown(), read(0, 1), read(0, 2), orders()), 11)
        # If 1 and 2 are the same, 3 and 4 are: of the 13 ways with the same 1 and 2 only 3 are left.
        self.assertEqual(last(unknown(), unknown(), read(0, 1), read(0, 2), orders()), 65)
        self.assertEqual(last(start(2), unknown(), unknown(), read(0, 1), read(1, 2), orders()), 75)


class WithClaims(unittest.TestCase):
    def test_without_a_term(self):
        self.assertEqual(last(bound(0, 0, 0), orders()), 1)
        self.assertEqual(last(bound(0, 0, -1), orders()), 0)

    def test_two_terms(self):
        two = (unknown(), unknown())
        for c, ways in ((1, 3), (0, 2), (-1, 1), (-5, 1)):
            self.assertEqual(last(*two, bound(1, 2, c), orders()), ways)
            self.assertEqual(last(*two, bound(2, 1, c), orders()), ways)
        self.assertEqual(last(*two, *equal(1, 2), orders()), 1)

    def test_0_is_no_term(self):
        self.assertEqual(last(unknown(), bound(1, 0, 3), bound(0, 1, 3), orders()), 1)
        self.assertEqual(last(unknown(), unknown(), bound(1, 0, 0), bound(0, 2, 0), orders()), 2)
        self.assertEqual(last(unknown(), unknown(), bound(1, 0, 0), bound(0, 2, -1), orders()), 1)

    def test_three_and_four_terms(self):
        three = (unknown(),) * 3
        self.assertEqual(last(*three, bound(1, 2, -1), orders()), 5)
        self.assertEqual(last(*three, bound(1, 2, -1), bound(2, 3, -1), orders()), 1)
        self.assertEqual(last(*three, bound(1, 2, 0), bound(2, 3, 0), orders()), 4)
        four = (unknown(),) * 4
        self.assertEqual(last(*four, bound(1, 2, 0), bound(2, 3, 0), bound(3, 4, 0), orders()), 8)
        self.assertEqual(last(*four, *equal(1, 2), *equal(3, 4), orders()), 3)

    def test_room_for_few_different_numbers(self):
        # Three terms from 0 to 1: all but the ways with three different numbers.
        calls = [claim for t in (1, 2, 3) for claim in (bound(t, 0, 1), bound(0, t, 0))]
        self.assertEqual(last(*[unknown()] * 3, *calls, orders()), 7)

    def test_arrays(self):
        pair = (unknown(), unknown(), read(0, 1), read(0, 2))
        # 3 is less than 4, so 1 and 2 differ: of 1 as 3 or 4 there are 2 times 4 ways for 2, of other ones 3 times 6.
        self.assertEqual(last(*pair, bound(3, 4, -1), orders()), 26)
        self.assertEqual(last(*pair, bound(3, 4, -1), rising(0, 2, 1), orders()), 13)
        self.assertEqual(last(*pair, bound(3, 4, -1), rising(0, 2, 1), bound(2, 1, 0), orders()), 0)
        self.assertEqual(last(unknown(), read(0, 1), least(0, 1, 1, 1), orders()), 2)
        self.assertEqual(last(unknown(), read(0, 1), most(0, 1, 1, 1), least(0, 1, 1, 1), orders()), 1)
        self.assertEqual(last(start(2), unknown(), read(0, 1), read(1, 1), alike(0, 1, 1, 1), orders()), 3)

    def test_no_world_fits(self):
        self.assertEqual(last(unknown(), bound(1, 0, -1), bound(0, 1, 0), orders()), 0)
        self.assertEqual(asked(*[unknown()] * 4, bound(4, 4, -1), orders(), drop(1), orders())[5:], [[0], [0], [75]])


if __name__ == "__main__":
    unittest.main()
