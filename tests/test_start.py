"""Point 1: start."""

import unittest

from lines import HIGHEST, alike, asked, bound, last, least, most, read, rising, start, unknown


class WhatStartAnswers(unittest.TestCase):
    def test_one_to_three_arrays(self):
        for a in (1, 2, 3):
            self.assertEqual(asked(start(a)), [[a]])

    def test_refused(self):
        for a in (0, 4, 5, HIGHEST):
            self.assertEqual(asked(start(a)), [[-1]])


class WhatStartLeaves(unittest.TestCase):
    def test_just_so_many_arrays(self):
        for a in (1, 2, 3):
            self.assertEqual(last(start(a), unknown(), read(a - 1, 1)), 2)
            self.assertEqual(last(start(a), unknown(), read(a, 1)), -2)

    def test_fewer_arrays_than_before(self):
        self.assertEqual(last(start(3), start(1), unknown(), read(1, 1)), -2)
        self.assertEqual(last(start(3), start(2), unknown(), alike(0, 2, 1, 1)), -2)

    def test_no_term(self):
        before = (start(2), unknown(), read(1, 1), unknown(), start(2))
        self.assertEqual(last(*before, bound(1, 0, 0)), -2)
        self.assertEqual(last(*before, rising(0, 1, 1)), -2)
        self.assertEqual(last(*before, unknown()), 1)

    def test_room_for_four_terms_again(self):
        each = asked(*[unknown()] * 4, start(1), *[unknown()] * 5)
        self.assertEqual(each[5:], [[1], [2], [3], [4], [-5]])

    def test_no_claim_and_the_next_number_is_one(self):
        before = (unknown(), bound(1, 0, 3), least(0, 1, 1, 0), most(0, 1, 1, 0), start(3), unknown())
        self.assertEqual(last(*before, rising(2, 1, 1)), 1)
        self.assertEqual(last(*before, bound(1, 0, 3), bound(1, 0, 3)), 2)

    def test_room_for_ten_claims_again(self):
        each = asked(*[bound(0, 0, 0)] * 11, start(1), *[bound(0, 0, 0)] * 11)
        self.assertEqual(each[10:12], [[-5], [1]])
        self.assertEqual(each[12:], [[number] for number in range(1, 11)] + [[-5]])


class RefusedStart(unittest.TestCase):
    def test_leaves_all_as_it_was(self):
        for a in (0, 4, HIGHEST):
            before = (start(2), unknown(), bound(1, 0, 1), rising(0, 1, 1), start(a))
            self.assertEqual(last(*before), -1)
            self.assertEqual(last(*before, unknown()), 2)
            self.assertEqual(last(*before, read(1, 1)), 2)
            self.assertEqual(last(*before, read(2, 1)), -2)
            self.assertEqual(last(*before, bound(1, 0, 0)), 3)

    def test_leaves_no_more_room(self):
        before = (*[unknown()] * 4, *[bound(0, 0, 0)] * 10, start(0))
        self.assertEqual(last(*before, unknown()), -5)
        self.assertEqual(last(*before, bound(0, 0, 0)), -5)


if __name__ == "__main__":
    unittest.main()
