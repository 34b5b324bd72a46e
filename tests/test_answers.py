"""The interface: how calls stand in the one list, and how answers stand in the other."""

import builtins
import contextlib
import io
import random
import sys
import unittest
from unittest import mock

from arrayreach.reach import answers
from lines import (HIGHEST, HIGHEST_C, LOWEST_C, alike, asked, back, bound, decide, drop, least, line, mark, most,
                   orders, read, rising, shows, span, start, surely, unknown)

TOLD = (start(2), unknown(), unknown(), read(1, 2), bound(3, 0, -7), least(0, 1, 2, 0), most(1, 2, 1, 3),
        rising(0, 1, 1), alike(0, 1, 1, 2))
ALL_EIGHT = line(*TOLD)
ALL_SIXTEEN = line(*TOLD, mark(), drop(2), decide(), surely(1, 2, 0), span(3), orders(), shows(), bound(0, 3, 6),
                   decide(), surely(1, 2, 0), span(3), orders(), back(), decide())


class EachCallAlone(unittest.TestCase):
    def test_start(self):
        self.assertEqual(answers([0, 2]), [1, 2])

    def test_unknown(self):
        self.assertEqual(answers([1]), [1, 1])

    def test_read(self):
        self.assertEqual(answers([1, 2, 0, 1]), [1, 1, 1, 2])
        self.assertEqual(answers([2, 0, 1]), [1, -2])

    def test_bound(self):
        self.assertEqual(answers([3, 0, 0, 5]), [1, 1])
        self.assertEqual(answers([1, 3, 1, 0, -5]), [1, 1, 1, 1])

    def test_least(self):
        self.assertEqual(answers([1, 4, 0, 1, 1, 0]), [1, 1, 1, 1])

    def test_most(self):
        self.assertEqual(answers([1, 5, 0, 1, 1, 1]), [1, 1, 1, 1])

    def test_rising(self):
        self.assertEqual(answers([1, 6, 0, 1, 1]), [1, 1, 1, 1])

    def test_alike(self):
        self.assertEqual(answers([0, 2, 1, 7, 0, 1, 1, 1]), [1, 2, 1, 1, 1, 1])


    def test_drop(self):
        self.assertEqual(answers([8, 1]), [1, -3])
        self.assertEqual(answers([3, 0, 0, 5, 3, 0, 0, 6, 8, 1]), [1, 1, 1, 2, 1, 1])

    def test_mark_and_back(self):
        self.assertEqual(answers([9]), [1, 1])
        self.assertEqual(answers([10]), [1, -7])
        self.assertEqual(answers([1, 9, 10]), [1, 1, 1, 1, 2, 1, 0])

    def test_decide(self):
        self.assertEqual(answers([11]), [4, 1, 0, 0, 1])
        self.assertEqual(answers([0, 2, 1, 3, 1, 0, -5, 11]), [1, 2, 1, 1, 1, 1, 8, 1, 1, -5, 1, -5, 2, 0, 0])
        self.assertEqual(answers([3, 0, 0, -5, 11]), [1, 1, 2, 0, 1])

    def test_surely(self):
        self.assertEqual(answers([12, 0, 0, 5]), [1, 1])
        self.assertEqual(answers([12, 0, 0, -5]), [1, 0])
        self.assertEqual(answers([1, 12, 1, 0, -5]), [1, 1, 1, 2])

    def test_range(self):
        self.assertEqual(answers([13, 1]), [1, -2])
        self.assertEqual(answers([1, 13, 1]), [1, 1, 2, 0, 0])
        self.assertEqual(answers([1, 3, 1, 0, -5, 13, 1]), [1, 1, 1, 1, 3, 0, 1, -5])

    def test_orders(self):
        self.assertEqual(answers([14]), [1, 1])
        self.assertEqual(answers([1, 1, 14]), [1, 1, 1, 2, 1, 3])

    def test_shows(self):
        self.assertEqual(answers([15]), [3, 1, 0, 0])
        self.assertEqual(answers([1, 2, 0, 1, 6, 0, 2, 1, 15]),
                         [1, 1, 1, 2, 1, 1, 12, 1, 2, 0, 1, 0, 1, 1, 1, 3, 0, 2, 1])


class SeveralCalls(unittest.TestCase):
    def test_all_eight_on_one_object(self):
        self.assertEqual(answers(ALL_EIGHT), [1, 2, 1, 1, 1, 2, 1, 3, 1, 1, 1, 2, 1, 3, 1, 4, 1, 5])

    def test_all_sixteen_on_one_object(self):
        # Term 3 is -7 or less; array 0 and 1 are alike from 1 to 2, and at 2 they have term 3.
        self.assertEqual(answers(ALL_SIXTEEN)[18:], [
            1, 1, 1, 4,
            13, 1, 3, 0, 0, -7, 2, -7, 0, 2, 0, -7, 0, -7,
            1, 2, 3, 0, 1, -7, 1, 13,
            30, 2, 3, 0, 0, 1, 1, 2, 4, 1, 0, 3, 0, -7, 3, 2, 1, 2, 1, 3, 4, 3, 0, 1, 1, 5, 4, 0, 1, 1, 2,
            1, 6, 3, 0, 1, 6, 1, -6, 1, -6, 1, 0,
            2, 3, 5,
            16, 1, 3, 0, -1, -7, 3, -7, -1, 0, 2, 0, 0, 0, 0, -7, -7])

    def test_refusals_are_one_number_among_the_others(self):
        calls = line(start(4), unknown(), read(1, 1), bound(1, 0, 100001), bound(1, 0, 1), rising(0, 0, 1))
        self.assertEqual(answers(calls), [1, -1, 1, 1, 1, -2, 1, -1, 1, 1, 1, -2])

    def test_begins_with_one_array_no_term_and_no_claim(self):
        self.assertEqual(asked(read(0, 1), unknown(), read(1, 1), read(0, 1)), [[-2], [1], [-2], [2]])
        self.assertEqual(asked(bound(1, 0, 0), bound(0, 0, 0)), [[-2], [1]])

    def test_terms_and_claims_are_counted_apart(self):
        self.assertEqual(asked(bound(0, 0, 1), unknown(), bound(1, 0, 1), unknown(), rising(0, 1, 2)),
                         [[1], [1], [2], [2], [3]])

    def test_forty_calls(self):
        self.assertEqual(answers([1] * 40), [1, 1, 1, 2, 1, 3, 1, 4] + [1, -5] * 36)

    def test_forty_calls_of_the_longest_kind(self):
        calls = line(unknown(), unknown(), *[alike(0, 0, 1, 2)] * 38)
        told = [1, 1, 1, 2] + [each for number in range(1, 11) for each in (1, number)] + [1, -5] * 28
        self.assertEqual(answers(calls), told)
        # Two hundred numbers.
        self.assertEqual(answers(line(*[alike(0, 0, 1, 2)] * 40)), [1, -2] * 40)


class AnyCalls(unittest.TestCase):
    """No call ends in an error, whatever is handed in."""

    WIDTHS = (1, 0, 2, 3, 4, 4, 3, 4, 1, 0, 0, 0, 3, 1, 0, 0)
    REFUSALS = ((-1,), (-5,), (-2, -5), (-2, -1, -5), (-2, -5), (-2, -5), (-2, -5), (-2, -5), (-3,), (-5,), (-7,), (),
                (-2, -1, -6), (-2, -6), (), ())

    def some_call(self, chance):
        # Calls that take all away again come seldom.
        call = chance.choice((0, 8, 10) + 3 * (1, 2, 3, 4, 5, 6, 7, 9, 11, 12, 13, 14, 15))
        given = [chance.choice((0, 1, 1, 2, 2, 3, 4, HIGHEST)) for k in range(self.WIDTHS[call])]
        if call in (3, 12):
            given[2] = chance.choice((LOWEST_C, -100000, -2, -1, 0, 0, 1, 2, 100000, HIGHEST_C))
        return [call] + given

    def test_any_calls(self):
        chance = random.Random("any calls")
        for time in range(200):
            calls = [unknown(), unknown()] + [self.some_call(chance) for k in range(38)]
            each = asked(*calls)
            self.assertEqual(len(each), 40)
            for call, answer in zip(calls, each):
                self.assertTrue(answer, call)
                if answer[0] < 0:
                    self.assertEqual(len(answer), 1, call)
                    self.assertIn(answer[0], self.REFUSALS[call[0]], call)
                elif call[0] not in (10, 11, 13, 15):
                    self.assertEqual(len(answer), 1, call)


class NothingElseIsDone(unittest.TestCase):
    def test_what_is_handed_in_is_not_changed(self):
        calls = list(ALL_SIXTEEN)
        answers(calls)
        self.assertEqual(calls, ALL_SIXTEEN)

    def test_what_is_handed_in_is_not_changed_for_a_while_either(self):
        class Unchanging(list):
            def refuse(self, *given, **named):
                raise AssertionError("the list that was handed in is changed")

            __setitem__ = __delitem__ = __iadd__ = __imul__ = refuse
            append = clear = extend = insert = pop = remove = reverse = sort = refuse

        self.assertEqual(answers(Unchanging(ALL_SIXTEEN)), answers(list(ALL_SIXTEEN)))

    def test_the_same_list_twice_is_answered_alike(self):
        calls = list(ALL_SIXTEEN)
        first = answers(calls)
        kept = list(first)
        second = answers(calls)
        self.assertEqual(first, second)
        self.assertIsNot(first, second)
        first.append(9)
        self.assertEqual(answers(calls), kept)

    def test_nothing_is_kept_from_one_time_to_the_next(self):
        answers(ALL_SIXTEEN)
        self.assertEqual(asked(read(1, 1), read(0, 1), bound(1, 0, 0), unknown(), bound(0, 0, 0)),
                         [[-2], [-2], [-2], [1], [1]])

    def test_gives_back_a_list_of_whole_numbers(self):
        told = answers(ALL_SIXTEEN + [3, 0, 0, 100001, 2, 9, 9])
        self.assertIs(type(told), list)
        self.assertEqual({type(number) for number in told}, {int})

    def test_prints_reads_and_imports_nothing(self):
        def refuse(*given, **named):
            raise AssertionError("reads or imports")

        out = io.StringIO()
        err = io.StringIO()
        with contextlib.redirect_stdout(out), contextlib.redirect_stderr(err), \
                mock.patch.object(sys, "stdin", None), mock.patch.object(builtins, "open", refuse), \
                mock.patch.object(builtins, "__import__", refuse):
            told = answers(ALL_SIXTEEN)
        self.assertEqual(told, answers(ALL_SIXTEEN))
        self.assertEqual(out.getvalue() + err.getvalue(), "")


if __name__ == "__main__":
    unittest.main()
