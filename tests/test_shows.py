"""shows: arrays, terms and claims as they stand."""

import unittest

from lines import (alike, asked, bound, decide, least, mark, most, orders, read, rising, shows, span, start, surely,
                   told, unknown)


class Shows(unittest.TestCase):
    def test_no_term_and_no_claim(self):
        self.assertEqual(told(shows()), [1, 0, 0])
        for a in (1, 2, 3):
            self.assertEqual(told(start(a), shows()), [a, 0, 0])

    def test_terms(self):
        self.assertEqual(told(start(3), unknown(), read(2, 1), unknown(), read(0, 2), shows()),
                         [3, 4, 0, 1, 2, 1, 0, 1, 0, 2, 0])

    def test_a_claim_without_a_term(self):
        self.assertEqual(told(bound(0, 0, -7), shows()), [1, 0, 1, 1, 0, 0, 0, -7])

    def test_each_kind_of_claim(self):
        before = (start(3), unknown(), unknown())
        shown = [3, 2, 0, 0, 1, 1]
        self.assertEqual(told(*before, bound(2, 1, -100000), shows()), shown + [0, 2, 1, -100000])
        self.assertEqual(told(*before, bound(0, 1, 100000), shows()), shown + [0, 0, 1, 100000])
        self.assertEqual(told(*before, least(2, 1, 2, 0), shows()), shown + [1, 2, 1, 2, 0])
        self.assertEqual(told(*before, most(1, 2, 1, 2), shows()), shown + [2, 1, 2, 1, 2])
        self.assertEqual(told(*before, rising(2, 2, 1), shows()), shown + [3, 2, 2, 1])
        self.assertEqual(told(*before, alike(1, 2, 2, 1), shows()), shown + [4, 1, 2, 2, 1])

    def test_claims_in_order(self):
        claims = (alike(0, 1, 1, 2), bound(1, 2, -3), most(1, 1, 1, 3), rising(0, 3, 2), least(0, 2, 3, 1))
        self.assertEqual(told(start(2), unknown(), read(0, 1), unknown(), *claims, shows()),
                         [2, 3, 0, 1, 0, 1, 0, 5, 1, 4, 0, 1, 1, 2, 2, 0, 1, 2, -3, 3, 2, 1, 1, 1, 3, 4, 3, 0, 3, 2,
                          5, 1, 0, 2, 3, 1])

    def test_what_was_told_twice_stands_twice(self):
        self.assertEqual(told(bound(0, 0, 1), bound(0, 0, 1), shows()), [1, 0, 2, 1, 0, 0, 0, 1, 2, 0, 0, 0, 1])

    def test_what_was_refused_is_not_shown(self):
        self.assertEqual(told(read(0, 1), bound(0, 0, 100001), rising(0, 1, 1), start(4), shows()), [1, 0, 0])

    def test_asking_changes_nothing(self):
        before = (start(2), unknown(), read(1, 1), bound(1, 2, -3), rising(1, 1, 2), mark())
        asks = (decide(), surely(1, 2, 0), span(2), orders())
        self.assertEqual(told(*before, shows()), told(*before, *asks, shows()))
        self.assertEqual(asked(*before, *asks, *asks)[-4:], asked(*before, *asks)[-4:])
        self.assertEqual(asked(*before, *asks, unknown(), rising(0, 1, 3), mark())[-3:], [[3], [3], [2]])


if __name__ == "__main__":
    unittest.main()
