"""Points 2 and 4: range."""

import unittest

from lines import HIGHEST, alike, asked, bound, drop, equal, last, least, most, read, rising, span, start, told, unknown

NOTHING_FITS = (unknown(), unknown(), bound(1, 0, -1), bound(0, 1, 0))


class UnknownTerms(unittest.TestCase):
    def test_neither_a_least_nor_a_greatest(self):
        self.assertEqual(told(unknown(), span(1)), [0, 0])
        self.assertEqual(told(unknown(), unknown(), bound(1, 2, 0), bound(2, 1, 0), span(2)), [0, 0])

    def test_a_greatest_alone(self):
        self.assertEqual(told(unknown(), bound(1, 0, 3), span(1)), [0, 1, 3])
        self.assertEqual(told(unknown(), bound(1, 0, -3), bound(1, 0, 5), span(1)), [0, 1, -3])

    def test_a_least_alone(self):
        self.assertEqual(told(unknown(), bound(0, 1, 2), span(1)), [1, -2, 0])
        self.assertEqual(told(unknown(), bound(0, 1, -2), span(1)), [1, 2, 0])

    def test_both(self):
        self.assertEqual(told(unknown(), bound(1, 0, 3), bound(0, 1, 2), span(1)), [1, -2, 1, 3])
        self.assertEqual(told(unknown(), *equal(1, 0, 0), span(1)), [1, 0, 1, 0])
        self.assertEqual(told(unknown(), *equal(1, 0, -100000), span(1)), [1, -100000, 1, -100000])

    def test_through_other_terms(self):
        calls = (unknown(), unknown(), unknown(), bound(1, 2, 3), bound(2, 3, -5), *equal(3, 0, 4))
        self.assertEqual(asked(*calls, span(1), span(2), span(3))[7:], [[0, 1, 2], [0, 1, -1], [1, 4, 1, 4]])

    def test_far_outside_of_where_c_is(self):
        terms = (unknown(),) * 4
        up = [bound(t, t + 1, -100000) for t in (1, 2, 3)] + [bound(0, 1, -100000)]
        self.assertEqual(told(*terms, *up, span(4)), [1, 400000, 0])
        down = [bound(t + 1, t, -100000) for t in (1, 2, 3)] + [bound(1, 0, -100000)]
        self.assertEqual(told(*terms, *down, span(4)), [0, 1, -400000])


class TermsThatAreRead(unittest.TestCase):
    PAIR = (unknown(), unknown(), read(0, 1), read(0, 2))

    def test_neither_a_least_nor_a_greatest(self):
        self.assertEqual(told(unknown(), read(0, 1), span(2)), [0, 0])
        self.assertEqual(told(*self.PAIR, rising(0, 1, 2), bound(3, 0, 5), span(4)), [0, 0])

    def test_at_one_place(self):
        self.assertEqual(told(*self.PAIR, *equal(1, 2), bound(3, 0, 5), bound(0, 4, 1), span(3)), [1, -1, 1, 5])
        self.assertEqual(told(*self.PAIR, bound(3, 0, 5), bound(0, 3, 1), span(4)), [0, 0])

    def test_rising(self):
        calls = (*self.PAIR, bound(1, 2, 0), rising(0, 1, 2), bound(0, 3, -7), bound(4, 0, 9))
        self.assertEqual(asked(*calls, span(3), span(4))[8:], [[1, 7, 1, 9], [1, 7, 1, 9]])

    def test_least_and_most(self):
        calls = (unknown(), read(0, 1), bound(1, 0, 6), bound(0, 1, 2))
        self.assertEqual(told(*calls, least(0, 1, 1, 1), span(2)), [1, -2, 0])
        self.assertEqual(told(*calls, most(0, 1, 1, 1), span(2)), [0, 1, 6])
        self.assertEqual(told(*calls, most(0, 1, 1, 0), least(0, 1, 1, 1), span(2)), [1, -2, 1, 0])
        self.assertEqual(told(*calls, most(0, 1, 1, 0), least(0, 1, 1, 1), span(1)), [1, -2, 1, 0])

    def test_alike(self):
        calls = (start(3), unknown(), read(0, 1), read(2, 1), bound(2, 0, 8), bound(0, 3, -6))
        self.assertEqual(told(*calls, span(3)), [1, 6, 0])
        self.assertEqual(told(*calls, alike(0, 2, 1, 1), span(3)), [1, 6, 1, 8])
        self.assertEqual(told(*calls, alike(0, 1, 1, 1), alike(1, 2, 1, 1), span(2)), [1, 6, 1, 8])

    def test_a_place(self):
        # Array 0 has 0 or more from 2 to 3 and less at 1, so 1 lies outside; and it is 5 more than 3 at most.
        calls = (unknown(), unknown(), unknown(), read(0, 1), *equal(2, 0, 1), *equal(3, 0, 4), least(0, 2, 3, 0),
                 bound(4, 0, -1), bound(1, 3, 5))
        self.assertEqual(told(*calls, span(1)), [0, 1, 9])
        self.assertEqual(told(*calls, bound(0, 1, -1), span(1)), [1, 5, 1, 9])
        self.assertEqual(told(*calls, bound(1, 0, 4), span(1)), [0, 1, 0])


class Refusals(unittest.TestCase):
    def test_a_term_is_not_there(self):
        for t in (0, 3, 4, 5, HIGHEST):
            self.assertEqual(last(unknown(), unknown(), span(t)), -2)
        for t in (0, 1, HIGHEST):
            self.assertEqual(last(span(t)), -2)

    def test_no_world_fits(self):
        self.assertEqual(last(*NOTHING_FITS, span(1)), -6)
        self.assertEqual(last(*NOTHING_FITS, span(2)), -6)

    def test_no_world_fits_is_told_last(self):
        for t in (0, 3, HIGHEST):
            self.assertEqual(last(*NOTHING_FITS, span(t)), -2)

    def test_it_fits_again(self):
        self.assertEqual(asked(*NOTHING_FITS, span(1), drop(2), span(1))[4:], [[-6], [1], [0, 1, -1]])


if __name__ == "__main__":
    unittest.main()
