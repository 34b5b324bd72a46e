"""Point 3: drop."""

import unittest

from lines import (HIGHEST, alike, asked, back, bound, decide, drop, last, least, mark, most, rising, shows, start,
                   told, unknown)

# Two terms and the claims 1 to 3.
THREE = (unknown(), unknown(), bound(1, 2, 5), least(0, 1, 2, 0), rising(0, 2, 1))


class WhatDropAnswers(unittest.TestCase):
    def test_how_many_stand_then(self):
        self.assertEqual(asked(*THREE, drop(2), drop(3), drop(1))[5:], [[2], [1], [0]])

    def test_each_kind(self):
        claims = (bound(1, 0, 1), least(0, 1, 1, 0), most(0, 1, 1, 1), rising(0, 1, 1), alike(0, 0, 1, 1))
        for k in range(1, 6):
            self.assertEqual(last(unknown(), *claims, drop(k)), 4)

    def test_dropped_already(self):
        self.assertEqual(asked(*THREE, drop(2), drop(2), drop(1), drop(2), drop(1))[5:], [[2], [-3], [1], [-3], [-3]])

    def test_never_was(self):
        for k in (0, 4, 5, 10, 11, HIGHEST):
            self.assertEqual(last(*THREE, drop(k)), -3)

    def test_without_a_claim(self):
        for k in (0, 1, HIGHEST):
            self.assertEqual(last(drop(k)), -3)
            self.assertEqual(last(unknown(), drop(k)), -3)

    def test_a_claim_of_before_start(self):
        self.assertEqual(last(*THREE, start(1), drop(1)), -3)

    def test_a_claim_that_back_took_away(self):
        self.assertEqual(last(*THREE, mark(), bound(0, 0, 0), back(), drop(4)), -3)


class WhatDropLeaves(unittest.TestCase):
    def test_the_other_claims(self):
        self.assertEqual(told(*THREE, drop(2), shows()), [1, 2, 0, 0, 2, 1, 0, 1, 2, 5, 3, 3, 0, 2, 1])
        self.assertEqual(told(*THREE, drop(1), shows()), [1, 2, 0, 0, 2, 2, 1, 0, 1, 2, 0, 3, 3, 0, 2, 1])

    def test_the_number_is_not_given_again(self):
        self.assertEqual(last(*THREE, drop(3), bound(0, 0, 0)), 4)
        self.assertEqual(last(*THREE, drop(1), drop(2), drop(3), bound(0, 0, 0)), 4)
        self.assertEqual(asked(bound(0, 0, 0), drop(1), bound(0, 0, 0), drop(2), bound(0, 0, 0), drop(2)),
                         [[1], [0], [2], [0], [3], [-3]])

    def test_room_for_one_more(self):
        full = (bound(0, 0, 0),) * 10
        self.assertEqual(asked(*full, bound(0, 0, 0), drop(4), bound(0, 0, 1), bound(0, 0, 1))[10:],
                         [[-5], [9], [11], [-5]])

    def test_what_it_asked_for_is_not_asked_for_any_longer(self):
        before = (unknown(), bound(1, 0, -4), bound(0, 1, -2))
        self.assertEqual(told(*before, decide()), [0, 1, 2])
        self.assertEqual(told(*before, drop(1), decide()), [1, 1, 2, 1, 2, 1, 0])
        self.assertEqual(told(*before, drop(2), decide()), [1, 1, -4, 1, -4, 1, 0])

    def test_refused_leaves_all_as_it_was(self):
        for k in (0, 2, 4, HIGHEST):
            each = asked(*THREE, drop(2), shows(), drop(k), shows(), bound(0, 0, 0))
            self.assertEqual(each[7], [-3])
            self.assertEqual(each[6], each[8])
            self.assertEqual(each[9], [4])


if __name__ == "__main__":
    unittest.main()
