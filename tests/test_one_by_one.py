"""decide, surely, range and orders, held against all worlds of a small span."""

import random
import unittest

import one_by_one
from lines import asked, bound, decide, least, most, orders, rising, span, surely

# How many arrays, terms and unknown ones at most; the span; how often.
SHAPES = (
    (1, 1, 1, -2, 2, 6),
    (1, 2, 2, -2, 2, 8),
    (1, 2, 2, -1, 2, 20),
    (1, 3, 2, -2, 1, 20),
    (1, 3, 3, -1, 1, 40),
    (1, 4, 2, -1, 1, 40),
    (1, 4, 4, -1, 1, 40),
    (2, 2, 2, -1, 1, 20),
    (2, 3, 2, -1, 1, 20),
    (2, 4, 2, -1, 1, 20),
    (2, 4, 3, 0, 1, 40),
    (3, 3, 2, 0, 1, 40),
    (3, 4, 4, -1, 0, 40),
    (3, 3, 1, -1, 1, 1),
)


def within(how_many, low, high):
    """Claims that keep all terms in the span."""
    return [claim for t in range(1, how_many + 1) for claim in (bound(t, 0, high), bound(0, t, -low))]


def asked_behind(before, asks):
    """What the asks answer, each behind the same calls, in lines of at most 40 calls."""
    each = []
    while len(each) < len(asks):
        some = asks[len(each):len(each) + 40 - len(before)]
        each += asked(*before, *some)[len(before):]
    return each


class AllWorldsOfASpan(unittest.TestCase):
    def compare(self, count, terms, claims, low, high):
        """Whether a world fits."""
        found = list(one_by_one.worlds(count, terms, claims, low, high))
        before = one_by_one.calls_of(count, terms, claims)
        asks = [decide(), orders()] + [span(t) for t in range(1, len(terms) + 1)]
        each = asked_behind(before, asks)
        if found:
            self.assertEqual(each[0], one_by_one.decided(found))
            self.assertEqual(each[1], [one_by_one.in_how_many_orders(found)])
            ends = [one_by_one.ends(found, t, 0) for t in range(1, len(terms) + 1)]
            self.assertEqual(each[2:], [[1, lowest, 1, highest] for lowest, highest in ends])
        else:
            self.assertEqual(each[0][0], 0)
            self.assertEqual(each[1:], [[0]] + [[-6]] * len(terms))
        self.compare_surely(found, before, len(terms), high - low + 1)
        return bool(found)

    def compare_surely(self, found, before, how_many, far):
        for t in range(how_many + 1):
            for u in range(how_many + 1):
                each = asked_behind(before, [surely(t, u, c) for c in range(-far, far + 1)])
                if found:
                    lowest, highest = one_by_one.ends(found, t, u)
                    self.assertEqual(each, [[1 if highest <= c else 0 if lowest > c else 2]
                                            for c in range(-far, far + 1)], (t, u))
                else:
                    self.assertEqual(each, [[-6]] * len(each))

    def test_shapes(self):
        fitting = 0
        for shape in SHAPES:
            count, how_many, most_unknown, low, high, times = shape
            chance = random.Random(str(shape))
            for time in range(times):
                terms = one_by_one.some_terms(chance, count, how_many, most_unknown)
                claims = within(how_many, low, high)
                claims += [one_by_one.some_claim(chance, count, how_many, -2, 1)
                           for k in range(min(5, 10 - len(claims)))]
                chance.shuffle(claims)
                with self.subTest(count=count, terms=terms, claims=claims):
                    fitting += self.compare(count, terms, claims, low, high)
        # Both are met often.
        self.assertGreater(fitting, 100)
        self.assertLess(fitting, sum(shape[-1] for shape in SHAPES) - 50)

    def test_two_numbers_as_near_to_0(self):
        # Term 1 lies outside of the places from 2 to 3, where the array has 0 or more; it is as far off below as above.
        terms = [None, None, None, (0, 1)]
        claims = [bound(2, 0, 0), bound(0, 3, 0), least(0, 2, 3, 0), bound(4, 0, -1), bound(1, 0, 1), bound(0, 1, 1),
                  bound(0, 2, 1), bound(3, 0, 1), bound(0, 4, 1)]
        self.assertTrue(self.compare(1, terms, claims, -1, 1))

    def test_rising_least_and_most(self):
        terms = [None, None, (0, 1)]
        claims = within(3, -2, 2) + [rising(0, 1, 2), most(0, 2, 2, 1), least(0, 1, 2, 3), bound(1, 2, -1)]
        self.assertTrue(self.compare(1, terms, claims, -2, 2))


class ClaimsAtFault(unittest.TestCase):
    """With so many terms and no c beyond -1 to 1, a world that fits is there within this span, if one is at all."""

    def compare(self, chance, count, how_many, most_unknown, far, how_many_claims):
        terms = one_by_one.some_terms(chance, count, how_many, most_unknown)
        claims = [one_by_one.some_claim(chance, count, how_many, -1, 1) for k in range(how_many_claims)]
        before = one_by_one.calls_of(count, terms, claims)
        answer = asked(*before, decide())[-1]
        if answer[0] == 1:
            return 0
        with self.subTest(count=count, terms=terms, claims=claims):
            self.assertEqual(answer, [0] + one_by_one.at_fault(count, terms, claims, -far, far))
        return 1

    def test_one_term(self):
        chance = random.Random("one term")
        self.assertGreater(sum(self.compare(chance, 2, 1, 1, 1, 6) for time in range(60)), 10)

    def test_two_terms(self):
        chance = random.Random("two terms")
        self.assertGreater(sum(self.compare(chance, 1, 2, 2, 2, 8) for time in range(25)), 5)


if __name__ == "__main__":
    unittest.main()
