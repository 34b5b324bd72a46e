"""Point 3: mark and back."""

import unittest

from lines import (asked, back, bound, decide, drop, last, least, mark, orders, read, rising, shows, span, start,
                   told, unknown)


class Mark(unittest.TestCase):
    def test_how_many_there_are_then(self):
        self.assertEqual(asked(mark(), mark(), mark()), [[1], [2], [3]])

    def test_the_eighth_and_the_ninth(self):
        self.assertEqual(asked(*[mark()] * 10)[6:], [[7], [8], [-5], [-5]])

    def test_room_again_behind_back(self):
        self.assertEqual(asked(*[mark()] * 8, back(), mark(), mark())[8:], [[0, 0], [8], [-5]])

    def test_changes_neither_terms_nor_claims(self):
        each = asked(unknown(), bound(1, 0, 3), shows(), mark(), shows(), bound(0, 1, 3))
        self.assertEqual(each[2], each[4])
        self.assertEqual(each[5], [2])

    def test_refused_leaves_all_as_it_was(self):
        before = (unknown(),) + (mark(), unknown()) + (mark(),) * 7
        self.assertEqual(asked(*before, mark(), *[back()] * 9)[10:], [[-5]] + [[2, 0]] * 7 + [[1, 0], [-7]])


class Back(unittest.TestCase):
    def test_without_a_mark(self):
        self.assertEqual(asked(back()), [[-7]])
        self.assertEqual(asked(mark(), back(), back()), [[1], [0, 0], [-7]])

    def test_refused_leaves_all_as_it_was(self):
        each = asked(unknown(), bound(1, 0, 3), shows(), back(), shows(), bound(1, 0, 3), unknown())
        self.assertEqual(each[2], each[4])
        self.assertEqual(each[3:4] + each[5:], [[-7], [2], [2]])

    def test_how_many_terms_then_how_many_claims(self):
        self.assertEqual(told(unknown(), unknown(), unknown(), bound(1, 0, 0), mark(), back()), [3, 1])
        self.assertEqual(told(unknown(), bound(1, 0, 0), rising(0, 1, 1), mark(), back()), [1, 2])

    def test_terms_and_claims_made_behind_the_mark_are_gone(self):
        before = (start(2), unknown(), read(1, 1), bound(1, 0, 3))
        between = (unknown(), read(0, 3), least(1, 3, 4, 2), rising(0, 1, 2))
        each = asked(*before, shows(), mark(), *between, back(), shows())
        self.assertEqual(each[-2], [2, 1])
        self.assertEqual(each[-1], each[4])
        self.assertEqual(last(*before, mark(), *between, back(), bound(3, 0, 0)), -2)

    def test_claims_dropped_behind_the_mark_stand_again(self):
        before = (unknown(), bound(1, 0, 3), bound(0, 1, 2), rising(0, 1, 1))
        each = asked(*before, shows(), mark(), drop(2), drop(1), shows(), back(), shows(), drop(1), drop(2))
        self.assertEqual(each[8], [1, 1, 0, 1, 3, 3, 0, 1, 1])
        self.assertEqual(each[9], [1, 3])
        self.assertEqual(each[10], each[4])
        self.assertEqual(each[11:], [[2], [1]])

    def test_the_claims_numbers_go_on(self):
        before = (unknown(), bound(1, 0, 3), mark(), bound(1, 0, 2), bound(1, 0, 1))
        self.assertEqual(last(*before, back(), bound(0, 0, 0)), 4)
        self.assertEqual(told(*before, back(), bound(0, 0, 0), shows()), [1, 1, 0, 2, 1, 0, 1, 0, 3, 4, 0, 0, 0, 0])

    def test_the_terms_names_are_given_again(self):
        self.assertEqual(last(unknown(), mark(), unknown(), unknown(), back(), unknown()), 2)

    def test_room_for_terms_and_claims_again(self):
        full = (unknown(), bound(0, 0, 0), mark()) + (unknown(),) * 3 + (bound(0, 0, 0),) * 9
        each = asked(*full, unknown(), bound(0, 0, 0), back(), unknown(), bound(0, 0, 0))
        self.assertEqual(each[-5:], [[-5], [-5], [1, 1], [2], [11]])

    def test_what_is_asked_behind_it_is_as_at_the_mark(self):
        before = (unknown(), bound(1, 0, -2))
        asks = (decide(), orders(), span(1))
        each = asked(*before, mark(), unknown(), bound(0, 1, 0), *asks, back(), *asks)
        self.assertEqual(each[5:8], [[0, 1, 2], [0], [-6]])
        self.assertEqual(each[9:], [[1, 1, -2, 1, -2, 1, 0], [1], [0, 1, -2]])


class MarksWithinMarks(unittest.TestCase):
    def test_the_last_one_first(self):
        calls = (unknown(), mark(), unknown(), bound(1, 2, 0), mark(), unknown(), bound(2, 3, 0), drop(1))
        self.assertEqual(asked(*calls, back(), back(), back())[8:], [[2, 1], [1, 0], [-7]])

    def test_each_is_as_it_was(self):
        calls = (unknown(), mark(), unknown(), bound(1, 2, 0), mark(), drop(1), rising(0, 1, 2))
        each = asked(*calls, shows(), back(), shows(), back(), shows())
        self.assertEqual(each[7::2], [[1, 2, 0, 0, 1, 2, 3, 0, 1, 2], [1, 2, 0, 0, 1, 1, 0, 1, 2, 0], [1, 1, 0, 0]])

    def test_a_mark_behind_back_is_of_what_is_there_then(self):
        calls = (mark(), unknown(), mark(), unknown(), back(), bound(1, 0, 7), mark(), unknown(), drop(1))
        self.assertEqual(asked(*calls, back(), back(), back())[9:], [[1, 1], [0, 0], [-7]])

    def test_two_marks_at_one_time(self):
        calls = (unknown(), mark(), mark(), unknown(), back(), unknown(), unknown())
        self.assertEqual(told(*calls, back()), [1, 0])

    def test_claims_made_behind_back_are_not_in_an_earlier_mark(self):
        calls = (mark(), mark(), back(), bound(0, 0, 0), unknown(), back(), shows())
        self.assertEqual(told(*calls), [1, 0, 0])


class StartTakesThemAway(unittest.TestCase):
    def test_no_mark(self):
        self.assertEqual(last(mark(), mark(), start(2), back()), -7)
        self.assertEqual(last(mark(), mark(), start(2), mark()), 1)

    def test_room_for_eight(self):
        self.assertEqual(asked(*[mark()] * 8, start(1), *[mark()] * 9)[9:], [[k] for k in range(1, 9)] + [[-5]])

    def test_a_refused_start_leaves_them(self):
        for a in (0, 4):
            self.assertEqual(asked(unknown(), mark(), start(a), mark(), back(), back(), back())[2:],
                             [[-1], [2], [1, 0], [1, 0], [-7]])

    def test_numbers_begin_anew_at_start_alone(self):
        calls = (bound(0, 0, 0), mark(), bound(0, 0, 0), back(), drop(1))
        self.assertEqual(last(*calls, bound(0, 0, 0)), 3)
        self.assertEqual(last(*calls, start(1), bound(0, 0, 0)), 1)


if __name__ == "__main__":
    unittest.main()
