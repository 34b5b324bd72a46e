"""Points 2 and 4: surely."""

import unittest

from lines import (HIGHEST, HIGHEST_C, LOWEST_C, alike, asked, bound, decide, drop, equal, last, least, most, read,
                   rising, start, surely, unknown)

NOTHING_FITS = (unknown(), unknown(), bound(1, 0, -1), bound(0, 1, 0))


class InEveryWorldInNoneOrInSome(unittest.TestCase):
    def assert_surely(self, before, expected):
        each = asked(*before, *[surely(*ask) for ask in expected])
        self.assertEqual(each[len(before):], [[answer] for answer in expected.values()])

    def test_without_a_claim(self):
        self.assert_surely((unknown(), unknown()), {
            (1, 0, 0): 2, (0, 1, 0): 2, (1, 2, 0): 2, (2, 1, 100000): 2, (1, 2, -100000): 2})

    def test_two_numbers_the_same(self):
        self.assert_surely((unknown(), read(0, 1)), {
            (1, 1, 0): 1, (1, 1, -1): 0, (1, 1, 100000): 1, (1, 1, -100000): 0, (2, 2, 0): 1, (2, 2, -1): 0})

    def test_0_and_0(self):
        self.assert_surely((), {(0, 0, 0): 1, (0, 0, 1): 1, (0, 0, -1): 0, (0, 0, 100000): 1, (0, 0, -100000): 0})

    def test_t_against_0(self):
        self.assert_surely((unknown(), bound(1, 0, 3), bound(0, 1, -1)), {
            (1, 0, 100000): 1, (1, 0, 4): 1, (1, 0, 3): 1, (1, 0, 2): 2, (1, 0, 1): 2, (1, 0, 0): 0, (1, 0, -1): 0})

    def test_0_against_u(self):
        self.assert_surely((unknown(), bound(1, 0, 3), bound(0, 1, -1)), {
            (0, 1, 0): 1, (0, 1, -1): 1, (0, 1, -2): 2, (0, 1, -3): 2, (0, 1, -4): 0, (0, 1, -5): 0})

    def test_with_one_end_alone(self):
        self.assert_surely((unknown(), bound(1, 0, 3)), {(1, 0, 3): 1, (1, 0, 2): 2, (0, 1, -4): 0, (0, 1, -3): 2})

    def test_through_other_terms(self):
        self.assert_surely((unknown(), unknown(), unknown(), bound(1, 2, 3), bound(2, 3, -5), bound(3, 1, 4)), {
            (1, 3, -2): 1, (1, 3, -3): 2, (1, 3, -4): 2, (1, 3, -5): 0, (3, 1, 4): 1, (3, 1, 1): 0, (2, 1, -1): 1,
            (2, 1, -2): 2, (2, 1, -4): 0})

    def test_far_outside_of_where_c_is(self):
        self.assert_surely((unknown(), unknown(), *equal(1, 0, 100000), *equal(2, 1, 100000)), {
            (2, 0, 100000): 0, (0, 2, -100000): 1, (2, 1, 100000): 1, (2, 1, 99999): 0})

    def test_reads_at_one_place(self):
        pair = (unknown(), unknown(), read(0, 1), read(0, 2))
        self.assert_surely(pair, {(3, 4, 0): 2, (3, 4, -1): 2})
        self.assert_surely((*pair, *equal(1, 2)), {(3, 4, 0): 1, (4, 3, 0): 1, (3, 4, -1): 0})

    def test_places_that_differ_either_way_round(self):
        self.assert_surely((unknown(), unknown(), read(0, 1), read(0, 2), bound(3, 4, -1)), {
            (1, 2, 0): 2, (1, 2, -1): 2, (2, 1, -1): 2})
        self.assert_surely((unknown(), unknown(), read(0, 1), read(0, 2), bound(3, 4, -1), bound(1, 2, 0)), {
            (1, 2, 0): 1, (1, 2, -1): 1, (1, 2, -2): 2, (2, 1, 0): 0})

    def test_rising(self):
        calls = (unknown(), unknown(), read(0, 1), read(0, 2), rising(0, 1, 2))
        self.assert_surely(calls, {(3, 4, 0): 2})
        self.assert_surely((*calls, bound(1, 2, 0)), {(3, 4, 0): 1, (3, 4, -1): 2, (4, 3, -1): 0, (4, 3, 0): 2})

    def test_least_and_most(self):
        calls = (unknown(), unknown(), read(0, 1), bound(1, 2, 0), least(0, 1, 2, 0), most(0, 2, 2, 2))
        self.assert_surely(calls, {(0, 3, 0): 1, (3, 0, -1): 0, (3, 2, 0): 2, (2, 0, -1): 0, (0, 2, 0): 1})

    def test_alike(self):
        calls = (start(3), unknown(), unknown(), read(0, 1), read(2, 1), alike(0, 1, 1, 2), alike(1, 2, 1, 1))
        self.assert_surely(calls, {(3, 4, 0): 2})
        self.assert_surely((*calls, bound(1, 2, -2)), {(3, 4, 0): 1, (4, 3, 0): 1, (4, 3, -1): 0})


class Refusals(unittest.TestCase):
    def test_a_term_is_not_there(self):
        for name in (3, 4, 5, HIGHEST):
            self.assertEqual(last(unknown(), unknown(), surely(name, 1, 0)), -2)
            self.assertEqual(last(unknown(), unknown(), surely(1, name, 0)), -2)
            self.assertEqual(last(unknown(), unknown(), surely(name, name, 0)), -2)
        self.assertEqual(last(surely(1, 0, 0)), -2)

    def test_c_is_not_in_range(self):
        for c in (LOWEST_C, -100001, 100001, HIGHEST_C):
            self.assertEqual(last(unknown(), surely(1, 0, c)), -1)
            self.assertEqual(last(surely(0, 0, c)), -1)
            self.assertEqual(last(unknown(), surely(2, 0, c)), -2)
            self.assertEqual(last(unknown(), surely(0, 2, c)), -2)
        for c in (-100000, 100000):
            self.assertEqual(last(unknown(), surely(1, 0, c)), 2)

    def test_no_world_fits(self):
        for ask in (surely(1, 0, 0), surely(0, 1, 0), surely(0, 0, 0), surely(2, 2, 0), surely(1, 2, 100000)):
            self.assertEqual(last(*NOTHING_FITS, ask), -6)
        self.assertEqual(last(bound(0, 0, -1), surely(0, 0, 0)), -6)

    def test_no_world_fits_is_told_last(self):
        self.assertEqual(last(*NOTHING_FITS, surely(3, 0, 0)), -2)
        self.assertEqual(last(*NOTHING_FITS, surely(0, 3, 100001)), -2)
        self.assertEqual(last(*NOTHING_FITS, surely(1, 0, 100001)), -1)
        self.assertEqual(last(*NOTHING_FITS, surely(1, 0, -100001)), -1)

    def test_it_fits_again(self):
        calls = (*NOTHING_FITS, surely(1, 0, 0), drop(1), surely(0, 1, 0), surely(1, 0, -1), decide())
        self.assertEqual(asked(*calls)[4:], [[-6], [1], [1], [0], [1, 2, 0, 0, 1, 0, 1, 0]])


if __name__ == "__main__":
    unittest.main()
