"""decide where a world fits: which one is told."""

import unittest

from lines import alike, asked, bound, decide, equal, least, most, read, rising, start, told, unknown


def world(terms, *arrays):
    """The answer that tells these terms and, array by array, what it has at the terms' places."""
    places = sorted(set(terms))
    return [1, len(terms), *terms, len(places), *places, len(arrays), *[number for each in arrays for number in each]]


class WithoutClaims(unittest.TestCase):
    def test_without_a_term(self):
        self.assertEqual(told(decide()), [1, 0, 0, 1])
        for a in (1, 2, 3):
            self.assertEqual(told(start(a), decide()), [1, 0, 0, a])

    def test_without_a_term_but_with_a_claim(self):
        self.assertEqual(told(bound(0, 0, 0), decide()), [1, 0, 0, 1])
        self.assertEqual(told(start(2), bound(0, 0, 100000), decide()), [1, 0, 0, 2])

    def test_one_to_four_terms(self):
        self.assertEqual(told(unknown(), decide()), [1, 1, 0, 1, 0, 1, 0])
        for count in (1, 2, 3, 4):
            self.assertEqual(told(*[unknown()] * count, decide()), world([0] * count, [0]))

    def test_terms_that_are_read(self):
        self.assertEqual(told(unknown(), read(0, 1), read(0, 2), decide()), world([0, 0, 0], [0]))

    def test_three_arrays(self):
        self.assertEqual(told(start(3), unknown(), decide()), [1, 1, 0, 1, 0, 3, 0, 0, 0])


class AsNearTo0(unittest.TestCase):
    def test_below_0(self):
        self.assertEqual(told(unknown(), bound(1, 0, -3), decide()), world([-3], [0]))
        self.assertEqual(told(unknown(), bound(1, 0, -3), bound(0, 1, 9), decide()), world([-3], [0]))

    def test_above_0(self):
        self.assertEqual(told(unknown(), bound(0, 1, -3), decide()), world([3], [0]))
        self.assertEqual(told(unknown(), bound(0, 1, -3), bound(1, 0, 9), decide()), world([3], [0]))

    def test_0_itself(self):
        self.assertEqual(told(unknown(), bound(1, 0, 3), bound(0, 1, 2), decide()), world([0], [0]))
        self.assertEqual(told(unknown(), bound(1, 0, 0), decide()), world([0], [0]))

    def test_a_term_that_is_read(self):
        self.assertEqual(told(unknown(), read(0, 1), bound(2, 0, -3), decide()), world([0, -3], [0, -3]))
        self.assertEqual(told(unknown(), read(0, 1), bound(0, 2, -3), decide()), world([0, 3], [3, 0]))

    def outside(self, low, high):
        """Term 1 lies outside of low to high: array 0 has 0 or more there, and less at term 1."""
        return (unknown(), unknown(), unknown(), read(0, 1), *equal(2, 0, low), *equal(3, 0, high),
                least(0, 2, 3, 0), bound(4, 0, -1), decide())

    def test_of_two_as_near_the_greater(self):
        self.assertEqual(told(*self.outside(-2, 2)), world([3, -2, 2, -1], [0, 0, 0, -1]))
        self.assertEqual(told(*self.outside(0, 0)), world([1, 0, 0, -1], [0, 0, -1]))

    def test_the_nearer_one_below_or_above_what_is_left_out(self):
        self.assertEqual(told(*self.outside(-2, 3)), world([-3, -2, 3, -1], [-1, 0, 0, 0]))
        self.assertEqual(told(*self.outside(-3, 2)), world([3, -3, 2, -1], [0, 0, 0, -1]))
        self.assertEqual(told(*self.outside(-100000, 99999)),
                         world([100000, -100000, 99999, -1], [0, 0, 0, -1]))

    def test_the_greater_also_of_a_later_term(self):
        # Array 0 has less at term 1 than at term 2, so they differ.
        self.assertEqual(told(unknown(), unknown(), read(0, 1), read(0, 2), bound(3, 4, -1), decide()),
                         world([0, 1, 0, 1], [0, 1]))
        self.assertEqual(told(unknown(), unknown(), read(0, 1), read(0, 2), bound(3, 4, -1), bound(2, 0, 0), decide()),
                         world([0, -1, 0, 1], [1, 0, 0]))


    def test_a_later_term_as_the_earlier_one_is_told(self):
        # Array 1 tells places 1 and 2 apart. Above 2, which is 0, array 0 rises up to 1, and so 3 is 5; below it is free.
        calls = (start(2), unknown(), unknown(), read(0, 1), read(0, 2), *equal(2, 0), bound(0, 4, -5),
                 least(1, 2, 2, 4), most(1, 1, 1, 0), rising(0, 2, 1))
        self.assertEqual(told(*calls, decide()), world([1, 0, 5, 5], [5, 5, 0], [5, 0, 0]))
        self.assertEqual(told(*calls, bound(1, 0, 0), decide()), world([-1, 0, 0, 5], [0, 5, 0], [0, 5, 0]))


class BoundsCoupleTerms(unittest.TestCase):
    def test_the_first_one_comes_first(self):
        self.assertEqual(told(unknown(), unknown(), bound(1, 2, -5), decide()), world([0, 5], [0, 0]))
        self.assertEqual(told(unknown(), unknown(), bound(2, 1, -5), decide()), world([0, -5], [0, 0]))

    def test_a_later_one_drives_an_earlier_one(self):
        self.assertEqual(told(unknown(), unknown(), bound(1, 2, -5), bound(2, 0, 2), decide()),
                         world([-3, 2], [0, 0]))

    def test_as_those_before_it_are(self):
        self.assertEqual(told(unknown(), unknown(), unknown(), bound(1, 2, -1), bound(2, 3, -1), bound(3, 0, 1),
                              decide()), world([-1, 0, 1], [0, 0, 0]))
        self.assertEqual(told(unknown(), unknown(), *equal(2, 1, 4), bound(0, 2, -3), decide()), world([0, 4], [0, 0]))
        self.assertEqual(told(unknown(), unknown(), *equal(2, 1, 4), bound(0, 2, -6), decide()), world([2, 6], [0, 0]))

    def test_terms_in_another_order_than_their_numbers(self):
        self.assertEqual(told(unknown(), unknown(), unknown(), *equal(1, 0, 7), *equal(2, 0, -7), *equal(3, 0, 1),
                              decide()), world([7, -7, 1], [0, 0, 0]))

    def test_far_outside_of_where_c_is(self):
        chain = [bound(t, t + 1, -100000) for t in (1, 2, 3)]
        self.assertEqual(told(*[unknown()] * 4, *chain, bound(0, 1, -100000), decide()),
                         world([100000, 200000, 300000, 400000], [0, 0, 0, 0]))
        self.assertEqual(told(*[unknown()] * 4, *chain, bound(4, 0, -100000), decide()),
                         world([-400000, -300000, -200000, -100000], [0, 0, 0, 0]))

    def test_a_term_with_itself(self):
        self.assertEqual(told(unknown(), bound(1, 1, 0), decide()), world([0], [0]))


class Reads(unittest.TestCase):
    PAIR = (start(2), unknown(), unknown(), read(0, 1), read(0, 2))

    def test_at_the_same_place_they_are_the_same(self):
        self.assertEqual(told(*self.PAIR, *equal(1, 2), bound(3, 0, -4), decide()),
                         world([0, 0, -4, -4], [0, -4], [0, 0]))
        self.assertEqual(told(*self.PAIR, *equal(1, 2), bound(3, 4, -1), decide()), [0, 1, 2, 3])

    def test_at_the_same_place_by_the_same_term(self):
        self.assertEqual(told(unknown(), read(0, 1), read(0, 1), bound(0, 3, -2), decide()),
                         world([0, 2, 2], [2, 0]))

    def test_at_other_places_they_need_not_be(self):
        self.assertEqual(told(*self.PAIR, *equal(2, 1, 1), bound(3, 0, -4), decide()),
                         world([0, 1, -4, 0], [0, -4, 0], [0, 0, 0]))

    def test_if_they_differ_the_places_do(self):
        self.assertEqual(told(*self.PAIR, *equal(3, 4, 2), decide()), world([0, 1, 0, -2], [0, 0, -2], [0, 0, 0]))

    def test_of_two_arrays_they_need_not_be(self):
        self.assertEqual(told(start(2), unknown(), read(0, 1), read(1, 1), bound(0, 2, -5), decide()),
                         world([0, 5, 0], [5, 0], [0, 0]))

    def test_a_read_of_a_read(self):
        self.assertEqual(told(unknown(), read(0, 1), read(0, 2), bound(0, 2, -5), bound(3, 0, -1), decide()),
                         world([0, 5, -1], [0, 5, -1]))

    def test_a_place_is_what_it_has(self):
        # Term 2 is what the array has at term 1, and it is term 1: so term 3, read at term 2, is the same, too.
        self.assertEqual(told(unknown(), read(0, 1), read(0, 2), *equal(1, 2), bound(3, 0, -6), decide()),
                         world([-6, -6, -6], [-6]))


class ArraysBetweenPlaces(unittest.TestCase):
    PAIR = (unknown(), unknown(), read(0, 1), read(0, 2))

    def test_rising(self):
        self.assertEqual(told(*self.PAIR, bound(1, 2, -1), rising(0, 1, 2), bound(0, 3, -5), decide()),
                         world([0, 1, 5, 5], [5, 5, 0]))
        self.assertEqual(told(*self.PAIR, bound(1, 2, -1), rising(0, 1, 2), bound(4, 0, -5), decide()),
                         world([0, 1, -5, -5], [0, -5, -5]))

    def test_rising_binds_nothing_if_i_is_more_than_j(self):
        self.assertEqual(told(*self.PAIR, bound(2, 1, -1), rising(0, 1, 2), bound(0, 3, -5), decide()),
                         world([0, -1, 5, 0], [0, 5, 0]))

    def test_rising_orders_the_places(self):
        self.assertEqual(told(*self.PAIR, rising(0, 1, 2), bound(0, 3, -5), bound(4, 0, 3), decide()),
                         world([0, -1, 5, 0], [0, 5, 0]))

    def test_rising_over_a_place_between(self):
        # Term 4, read at term 2, lies between the places 1 and 3 that rising is told of.
        calls = (unknown(), unknown(), unknown(), read(0, 2), *equal(2, 1, 10), *equal(3, 1, 20), rising(0, 1, 3))
        self.assertEqual(told(*calls, bound(0, 4, -12), decide()), world([0, 10, 20, 12], [0, 12, 12, 12]))
        self.assertEqual(told(*calls, bound(4, 0, -12), decide()), world([0, 10, 20, -12], [0, -12, -12, 0]))

    def test_least(self):
        self.assertEqual(told(*self.PAIR, bound(1, 2, -1), least(0, 1, 2, 2), decide()),
                         world([0, 1, 1, 1], [1, 1]))
        self.assertEqual(told(*self.PAIR, bound(1, 2, -1), bound(3, 0, -1), least(0, 1, 2, 0), decide()), [0, 1, 2, 3])

    def test_least_binds_nothing_if_i_is_more_than_j(self):
        self.assertEqual(told(*self.PAIR, bound(2, 1, -1), bound(3, 0, -1), least(0, 1, 2, 0), decide()),
                         world([0, -1, -1, 0], [0, -1]))
        self.assertEqual(told(*self.PAIR, bound(3, 0, -1), least(0, 1, 2, 0), decide()),
                         world([0, -1, -1, 0], [0, -1]))

    def test_most(self):
        self.assertEqual(told(*self.PAIR, bound(2, 1, 2), bound(1, 2, -2), bound(1, 0, -3), most(0, 1, 2, 1), decide()),
                         world([-3, -1, -3, -3], [-3, -3]))
        self.assertEqual(told(*self.PAIR, bound(1, 2, -1), bound(0, 4, -1), most(0, 1, 2, 0), decide()), [0, 1, 2, 3])

    def test_most_binds_nothing_if_i_is_more_than_j(self):
        self.assertEqual(told(*self.PAIR, bound(0, 4, -1), most(0, 1, 2, 0), decide()),
                         world([0, -1, 0, 1], [1, 0, 0]))

    def test_both_ends_are_among_them(self):
        for claim, low in ((least(0, 1, 2, 0), 3), (least(0, 1, 2, 0), 4), (least(0, 1, 1, 0), 3),
                           (least(0, 2, 2, 0), 4)):
            self.assertEqual(told(*self.PAIR, *equal(2, 1, 1), claim, bound(low, 0, -1), decide())[0], 0)
        self.assertEqual(told(*self.PAIR, *equal(2, 1, 1), least(0, 1, 1, 0), bound(4, 0, -1), decide()),
                         world([0, 1, 0, -1], [0, 0, -1]))

    def test_alike(self):
        calls = (start(2), unknown(), unknown(), read(0, 1), read(1, 2), bound(0, 3, -5))
        self.assertEqual(told(*calls, *equal(1, 2), alike(0, 1, 1, 2), decide()),
                         world([0, 0, 5, 5], [5, 0], [5, 0]))
        self.assertEqual(told(*calls, bound(1, 2, 0), bound(4, 0, 0), alike(0, 1, 1, 2), decide()),
                         world([0, 1, 5, 0], [5, 0, 0], [5, 0, 0]))

    def test_alike_binds_nothing_if_i_is_more_than_j(self):
        calls = (start(2), unknown(), unknown(), read(0, 1), read(1, 1), bound(0, 3, -5), bound(4, 0, 1))
        self.assertEqual(told(*calls, alike(0, 1, 1, 2), decide()), world([0, -1, 5, 0], [0, 5, 0], [0, 0, 0]))
        self.assertEqual(told(*calls, alike(0, 1, 1, 2), bound(1, 2, 0), decide()), [0, 1, 2, 3, 4])

    def test_one_place_from_a_term_to_itself(self):
        self.assertEqual(told(unknown(), read(0, 1), bound(0, 1, -4), least(0, 1, 1, 1), decide()),
                         world([4, 4], [4]))


class WhatArraysHaveWhereNothingIsRead(unittest.TestCase):
    def test_as_near_to_0_as_it_can_be(self):
        pair = (unknown(), unknown(), *equal(1, 0, 2), *equal(2, 0, 4))
        self.assertEqual(told(*pair, decide()), world([2, 4], [0, 0]))
        self.assertEqual(told(*pair, least(0, 1, 2, 1), decide()), world([2, 4], [2, 2]))
        self.assertEqual(told(*pair, least(0, 1, 1, 2), decide()), world([2, 4], [4, 0]))
        self.assertEqual(told(*pair, least(0, 1, 1, 1), rising(0, 1, 2), decide()), world([2, 4], [2, 2]))
        self.assertEqual(told(*pair, most(0, 1, 2, 1), decide()), world([2, 4], [0, 0]))
        self.assertEqual(told(*pair, least(0, 2, 1, 1), decide()), world([2, 4], [0, 0]))

    def test_below_0(self):
        pair = (unknown(), unknown(), *equal(1, 0, -4), *equal(2, 0, -2))
        self.assertEqual(told(*pair, most(0, 1, 2, 2), decide()), world([-4, -2], [-2, -2]))
        self.assertEqual(told(*pair, most(0, 2, 2, 1), rising(0, 1, 2), decide()), world([-4, -2], [-4, -4]))

    def test_the_terms_come_ahead_of_the_arrays(self):
        # The array would be nearer to 0 if term 1 were farther off.
        self.assertEqual(told(unknown(), unknown(), *equal(2, 0, 5), least(0, 1, 2, 2), decide()),
                         world([0, 5], [5, 5]))


class SeveralArrays(unittest.TestCase):
    def test_two(self):
        calls = (start(2), unknown(), unknown(), *equal(2, 1, 3), least(0, 1, 2, 2), alike(0, 1, 2, 2))
        self.assertEqual(told(*calls, decide()), world([0, 3], [3, 3], [0, 3]))

    def test_three_in_a_chain(self):
        calls = (start(3), unknown(), unknown(), read(0, 1), read(2, 2), *equal(1, 2), alike(0, 1, 1, 2),
                 alike(1, 2, 2, 1), bound(0, 4, -9))
        self.assertEqual(told(*calls, decide()), world([0, 0, 9, 9], [9, 0], [9, 0], [9, 0]))

    def test_three_at_other_places_each(self):
        calls = (start(3), unknown(), unknown(), unknown(), *equal(1, 0, 1), *equal(2, 0, 2), *equal(3, 0, 3),
                 least(0, 1, 1, 3), least(1, 2, 2, 2), alike(0, 2, 1, 2), alike(1, 2, 3, 3))
        self.assertEqual(told(*calls, decide()), world([1, 2, 3], [3, 0, 0], [0, 2, 0], [3, 0, 0]))

    def test_an_array_with_itself(self):
        self.assertEqual(told(unknown(), alike(0, 0, 1, 1), decide()), world([0], [0]))

    def test_the_answer_is_of_that_many_numbers(self):
        each = asked(start(3), *[unknown()] * 4, bound(1, 2, -1), bound(2, 3, -1), bound(3, 4, -1), decide())
        self.assertEqual(len(each[-1]), 1 + 1 + 4 + 1 + 4 + 1 + 12)


if __name__ == "__main__":
    unittest.main()
