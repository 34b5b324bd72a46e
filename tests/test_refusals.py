"""Point 2: what read, bound, least, most, rising, alike and unknown refuse, and in which order."""

import unittest

from lines import (HIGHEST, HIGHEST_C, LOWEST_C, alike, asked, bound, last, least, most, read, rising, start,
                   unknown)

# Two arrays, 0 and 1, and two terms, 1 and 2.
TWO = (start(2), unknown(), unknown())
NO_ARRAY = (2, 3, HIGHEST)
NO_TERM = (3, 4, HIGHEST)
NO_PLACE = (0,) + NO_TERM
FULL_TERMS = TWO + (unknown(), unknown())
FULL_CLAIMS = TWO + (bound(1, 2, 0),) * 10

CLAIMS = {
    "bound": bound(1, 2, 0),
    "least": least(0, 1, 2, 1),
    "most": most(0, 1, 2, 1),
    "rising": rising(1, 1, 2),
    "alike": alike(0, 1, 1, 2),
}

# Each of the calls with one name that isn't there.
NOT_THERE = {
    "read a": [read(a, 1) for a in NO_ARRAY],
    "read i": [read(0, i) for i in NO_PLACE],
    "bound t": [bound(t, 1, 0) for t in NO_TERM],
    "bound u": [bound(1, u, 0) for u in NO_TERM],
    "least a": [least(a, 1, 2, 1) for a in NO_ARRAY],
    "least i": [least(0, i, 2, 1) for i in NO_PLACE],
    "least j": [least(0, 1, j, 1) for j in NO_PLACE],
    "least v": [least(0, 1, 2, v) for v in NO_TERM],
    "most a": [most(a, 1, 2, 1) for a in NO_ARRAY],
    "most i": [most(0, i, 2, 1) for i in NO_PLACE],
    "most j": [most(0, 1, j, 1) for j in NO_PLACE],
    "most v": [most(0, 1, 2, v) for v in NO_TERM],
    "rising a": [rising(a, 1, 2) for a in NO_ARRAY],
    "rising i": [rising(0, i, 2) for i in NO_PLACE],
    "rising j": [rising(0, 1, j) for j in NO_PLACE],
    "alike a": [alike(a, 0, 1, 2) for a in NO_ARRAY],
    "alike b": [alike(0, b, 1, 2) for b in NO_ARRAY],
    "alike i": [alike(0, 1, i, 2) for i in NO_PLACE],
    "alike j": [alike(0, 1, 1, j) for j in NO_PLACE],
}

# Every way to name what is there.
THERE = {
    "bound": [bound(t, u, 0) for t in (0, 1, 2) for u in (0, 1, 2)],
    "least": [least(a, i, j, v) for a in (0, 1) for i in (1, 2) for j in (1, 2) for v in (0, 1, 2)],
    "most": [most(a, i, j, v) for a in (0, 1) for i in (1, 2) for j in (1, 2) for v in (0, 1, 2)],
    "rising": [rising(a, i, j) for a in (0, 1) for i in (1, 2) for j in (1, 2)],
    "alike": [alike(a, b, i, j) for a in (0, 1) for b in (0, 1) for i in (1, 2) for j in (1, 2)],
}


class Names(unittest.TestCase):
    def test_what_is_there(self):
        for which, calls in THERE.items():
            for call in calls:
                with self.subTest(which, call=call):
                    self.assertEqual(last(*TWO, call), 1)

    def test_what_a_read_may_name(self):
        for a in (0, 1):
            for i in (1, 2):
                self.assertEqual(last(*TWO, read(a, i)), 3)

    def test_a_term_that_is_read_may_be_named(self):
        before = TWO + (read(1, 2),)
        self.assertEqual(last(*before, read(0, 3)), 4)
        self.assertEqual(last(*before, bound(3, 0, 0)), 1)
        self.assertEqual(last(*before, least(1, 3, 3, 3)), 1)

    def test_what_is_not_there(self):
        for which, calls in NOT_THERE.items():
            for call in calls:
                with self.subTest(which, call=call):
                    self.assertEqual(last(*TWO, call), -2)

    def test_a_read_cannot_name_itself(self):
        self.assertEqual(last(*TWO, read(0, 3)), -2)

    def test_without_a_term_only_0_is_there(self):
        self.assertEqual(asked(read(0, 0)), [[-2]])
        self.assertEqual(asked(least(0, 0, 0, 0)), [[-2]])
        self.assertEqual(asked(most(0, 0, 0, 0)), [[-2]])
        self.assertEqual(asked(rising(0, 0, 0)), [[-2]])
        self.assertEqual(asked(alike(0, 0, 0, 0)), [[-2]])
        self.assertEqual(asked(bound(0, 0, 0)), [[1]])

    def test_the_greatest_names(self):
        before = (start(3),) + (unknown(),) * 4
        self.assertEqual(last(*before, bound(4, 4, 0)), 1)
        self.assertEqual(last(*before, least(2, 4, 4, 4)), 1)
        self.assertEqual(last(*before, most(2, 4, 4, 4)), 1)
        self.assertEqual(last(*before, rising(2, 4, 4)), 1)
        self.assertEqual(last(*before, alike(2, 2, 4, 4)), 1)
        self.assertEqual(last(*before, bound(5, 4, 0)), -2)
        self.assertEqual(last(*before, alike(2, 3, 4, 4)), -2)


class HowFarC(unittest.TestCase):
    def test_in_range(self):
        for c in (-100000, -99999, -1, 0, 1, 99999, 100000):
            self.assertEqual(last(*TWO, bound(1, 2, c)), 1)

    def test_out_of_range(self):
        for c in (LOWEST_C, -100002, -100001, 100001, 100002, HIGHEST_C):
            self.assertEqual(last(*TWO, bound(1, 2, c)), -1)
            self.assertEqual(last(bound(0, 0, c)), -1)


class Room(unittest.TestCase):
    def test_four_terms(self):
        self.assertEqual(asked(*[unknown()] * 6), [[1], [2], [3], [4], [-5], [-5]])
        self.assertEqual(asked(unknown(), *[read(0, 1)] * 5), [[1], [2], [3], [4], [-5], [-5]])

    def test_the_fourth_and_the_fifth_term(self):
        three = (start(2),) + (unknown(),) * 3
        for fourth in (unknown(), read(1, 3)):
            self.assertEqual(last(*three, fourth), 4)
            for fifth in (unknown(), read(0, 4)):
                self.assertEqual(last(*three, fourth, fifth), -5)

    def test_ten_claims_of_each_kind(self):
        for which, claim in CLAIMS.items():
            with self.subTest(which):
                each = asked(*TWO, *[claim] * 12)
                self.assertEqual(each[3:], [[number] for number in range(1, 11)] + [[-5], [-5]])

    def test_the_tenth_and_the_eleventh_claim(self):
        nine = TWO + tuple(CLAIMS.values()) + tuple(CLAIMS.values())[:4]
        for which, claim in CLAIMS.items():
            for behind, eleventh in CLAIMS.items():
                with self.subTest(which, behind=behind):
                    self.assertEqual(asked(*nine, claim, eleventh)[-2:], [[10], [-5]])

    def test_claims_leave_room_for_terms_and_terms_for_claims(self):
        self.assertEqual(last(*FULL_CLAIMS, unknown()), 3)
        self.assertEqual(last(*FULL_CLAIMS, read(1, 2)), 3)
        for claim in CLAIMS.values():
            self.assertEqual(last(*FULL_TERMS, claim), 1)


class WhichIsToldFirst(unittest.TestCase):
    def test_not_there_before_no_room(self):
        for which, calls in NOT_THERE.items():
            before = FULL_TERMS if which.startswith("read") else FULL_CLAIMS
            call = calls[-1]
            with self.subTest(which, call=call):
                self.assertEqual(last(*before, call), -2)

    def test_not_there_before_c_out_of_range(self):
        for c in (LOWEST_C, -100001, 100001, HIGHEST_C):
            for before in (TWO, FULL_CLAIMS):
                for call in (bound(3, 1, c), bound(1, 3, c), bound(HIGHEST, 0, c), bound(0, HIGHEST, c)):
                    self.assertEqual(last(*before, call), -2)

    def test_c_out_of_range_before_no_room(self):
        for c in (LOWEST_C, -100001, 100001, HIGHEST_C):
            self.assertEqual(last(*FULL_CLAIMS, bound(1, 2, c)), -1)
            self.assertEqual(last(*FULL_CLAIMS, bound(0, 0, c)), -1)
        self.assertEqual(last(*FULL_CLAIMS, bound(1, 2, 100000)), -5)

    def test_array_and_term_both_not_there(self):
        for call in (read(2, 0), least(2, 0, 0, 3), most(2, 3, 3, 3), rising(2, 0, 3), alike(2, 2, 0, 0)):
            self.assertEqual(last(*TWO, call), -2)


class RefusedCalls(unittest.TestCase):
    """A refused call leaves all as it was."""

    def assert_nothing_changed(self, before, refused, number):
        """The calls that come behind answer as if the refused one hadn't been asked."""
        behind = (bound(1, 0, 0), unknown(), read(1, 2), rising(1, 1, 2), read(2, 1), bound(3, 4, 1), bound(5, 0, 1),
                  unknown())
        each = asked(*before, refused, *behind)
        self.assertEqual(each[len(before)], [number])
        self.assertEqual(each[:len(before)] + each[len(before) + 1:], asked(*before, *behind))

    def test_not_there(self):
        for which, calls in NOT_THERE.items():
            for call in calls:
                with self.subTest(which, call=call):
                    self.assert_nothing_changed(TWO, call, -2)
                    self.assert_nothing_changed(TWO + (rising(0, 1, 2),), call, -2)

    def test_c_out_of_range(self):
        for c in (LOWEST_C, -100001, 100001, HIGHEST_C):
            self.assert_nothing_changed(TWO, bound(1, 2, c), -1)
            self.assert_nothing_changed(TWO + (rising(0, 1, 2),), bound(0, 0, c), -1)

    def test_no_room_for_a_term(self):
        for call in (unknown(), read(0, 1), read(1, 4)):
            self.assert_nothing_changed(FULL_TERMS, call, -5)

    def test_no_room_for_a_claim(self):
        for call in CLAIMS.values():
            self.assert_nothing_changed(FULL_CLAIMS, call, -5)

    def test_the_next_name_and_number_are_as_if_it_had_not_been_asked(self):
        self.assertEqual(asked(unknown(), read(1, 1), read(0, 2), unknown()), [[1], [-2], [-2], [2]])
        self.assertEqual(asked(bound(0, 0, 1), bound(0, 0, 100001), bound(1, 0, 1), rising(0, 1, 1), bound(0, 0, 1)),
                         [[1], [-1], [-2], [-2], [2]])


if __name__ == "__main__":
    unittest.main()
