"""The interface: how calls stand in the one list, and how answers stand in the other."""

import builtins
import contextlib
import io
import sys
import unittest
from unittest import mock

from arrayreach.reach import answers
from lines import alike, asked, bound, least, line, most, read, rising, start, unknown

ALL_EIGHT = line(start(2), unknown(), unknown(), read(1, 2), bound(3, 0, -7), least(0, 1, 2, 0),
                 most(1, 2, 1, 3), rising(0, 1, 1), alike(0, 1, 1, 2))


class EachCallAlone(unittest.TestCase):
    def test_start(self):
        self.assertEqual(answers([0, 2]), [1, 2])

    def test_unknown(self):
        self.assertEqual(answers([1]), [1, 1])

    def test_read(self):
        self.assertEqual(answers([1, 2, 0, 1]), [1, 1, 1, 2])
        self.assertEqual(answers([2, 0, 1]), [1, -2])

    def test_bound(self):
        self.assertEqual(answers([3, 0, 0, 5]), [1, 1])
        self.assertEqual(answers([1, 3, 1, 0, -5]), [1, 1, 1, 1])

    def test_least(self):
        self.assertEqual(answers([1, 4, 0, 1, 1, 0]), [1, 1, 1, 1])

    def test_most(self):
        self.assertEqual(answers([1, 5, 0, 1, 1, 1]), [1, 1, 1, 1])

    def test_rising(self):
        self.assertEqual(answers([1, 6, 0, 1, 1]), [1, 1, 1, 1])

    def test_alike(self):
        self.assertEqual(answers([0, 2, 1, 7, 0, 1, 1, 1]), [1, 2, 1, 1, 1, 1])


class SeveralCalls(unittest.TestCase):
    def test_all_eight_on_one_object(self):
        self.assertEqual(answers(ALL_EIGHT), [1, 2, 1, 1, 1, 2, 1, 3, 1, 1, 1, 2, 1, 3, 1, 4, 1, 5])

    def test_refusals_are_one_number_among_the_others(self):
        calls = line(start(4), unknown(), read(1, 1), bound(1, 0, 100001), bound(1, 0, 1), rising(0, 0, 1))
        self.assertEqual(answers(calls), [1, -1, 1, 1, 1, -2, 1, -1, 1, 1, 1, -2])

    def test_begins_with_one_array_no_term_and_no_claim(self):
        self.assertEqual(asked(read(0, 1), unknown(), read(1, 1), read(0, 1)), [[-2], [1], [-2], [2]])
        self.assertEqual(asked(bound(1, 0, 0), bound(0, 0, 0)), [[-2], [1]])

    def test_terms_and_claims_are_counted_apart(self):
        self.assertEqual(asked(bound(0, 0, 1), unknown(), bound(1, 0, 1), unknown(), rising(0, 1, 2)),
                         [[1], [1], [2], [2], [3]])

    def test_forty_calls(self):
        self.assertEqual(answers([1] * 40), [1, 1, 1, 2, 1, 3, 1, 4] + [1, -5] * 36)

    def test_two_hundred_numbers(self):
        calls = line(unknown(), unknown(), *[alike(0, 0, 1, 2)] * 38, start(3), start(2), start(1), unknown(), unknown())
        self.assertEqual(len(calls), 200)
        told = [1, 1, 1, 2] + [each for number in range(1, 11) for each in (1, number)] + [1, -5] * 28
        self.assertEqual(answers(calls), told + [1, 3, 1, 2, 1, 1, 1, 1, 1, 2])


class NothingElseIsDone(unittest.TestCase):
    def test_what_is_handed_in_is_not_changed(self):
        calls = list(ALL_EIGHT)
        answers(calls)
        self.assertEqual(calls, ALL_EIGHT)

    def test_what_is_handed_in_is_not_changed_for_a_while_either(self):
        class Unchanging(list):
            def refuse(self, *given, **named):
                raise AssertionError("the list that was handed in is changed")

            __setitem__ = __delitem__ = __iadd__ = __imul__ = refuse
            append = clear = extend = insert = pop = remove = reverse = sort = refuse

        self.assertEqual(answers(Unchanging(ALL_EIGHT)), answers(list(ALL_EIGHT)))

    def test_the_same_list_twice_is_answered_alike(self):
        calls = list(ALL_EIGHT)
        first = answers(calls)
        kept = list(first)
        second = answers(calls)
        self.assertEqual(first, second)
        self.assertIsNot(first, second)
        first.append(9)
        self.assertEqual(answers(calls), kept)

    def test_nothing_is_kept_from_one_time_to_the_next(self):
        answers(ALL_EIGHT)
        self.assertEqual(asked(read(1, 1), read(0, 1), bound(1, 0, 0), unknown(), bound(0, 0, 0)),
                         [[-2], [-2], [-2], [1], [1]])

    def test_gives_back_a_list_of_whole_numbers(self):
        told = answers(ALL_EIGHT + [3, 0, 0, 100001, 2, 9, 9])
        self.assertIs(type(told), list)
        self.assertEqual({type(number) for number in told}, {int})

    def test_prints_reads_and_imports_nothing(self):
        def refuse(*given, **named):
            raise AssertionError("reads or imports")

        out = io.StringIO()
        err = io.StringIO()
        with contextlib.redirect_stdout(out), contextlib.redirect_stderr(err), \
                mock.patch.object(sys, "stdin", None), mock.patch.object(builtins, "open", refuse), \
                mock.patch.object(builtins, "__import__", refuse):
            told = answers(ALL_EIGHT)
        self.assertEqual(told, answers(ALL_EIGHT))
        self.assertEqual(out.getvalue() + err.getvalue(), "")


if __name__ == "__main__":
    unittest.main()
