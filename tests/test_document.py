"""The whole document: one test a promise, over the whole program as it stands."""

import unittest

from takeagain import errors
from takeagain.answers import Answer, Lost, Won
from takeagain.steps import step_by, sum_of, whole
from takeagain.taking import behind, told
from tests.support import (FACTORS, GREAT_HEAPS, assert_refused, is_sum_by_words, no_factors, no_heaps, no_lists,
                           no_numbers, row_by_words, steps_past, sums_by_total, winners)


class Promises(unittest.TestCase):
    def test_1_factors_heaps_limits_and_takings_are_what_they_are_told_to_be(self):
        for factor in FACTORS:
            self.assertEqual(step_by(factor, 0), 1)
            self.assertEqual(sum_of(factor, 0), [])
            self.assertEqual(whole(factor, []), 0)
            self.assertIs(type(told(factor, 0, 0)), Lost)
            self.assertEqual(behind(factor, 10 ** 60, 10 ** 50, 10 ** 50), (10 ** 60 - 10 ** 50, factor * 10 ** 50))
            assert_refused(self, errors.BadTaking, behind, factor, 10 ** 60, 10 ** 50, 10 ** 50 + 1)
        for factor in no_factors():
            for function, given in ((step_by, (1,)), (sum_of, (1,)), (whole, ([1],)),
                                    (told, (1, 1)), (behind, (1, 1, 1))):
                assert_refused(self, errors.BadFactor, function, factor, *given)
        for heap in no_heaps():
            assert_refused(self, errors.BadHeap, sum_of, 2, heap)
            assert_refused(self, errors.BadHeap, told, 2, heap, 1)
            assert_refused(self, errors.BadHeap, behind, 2, heap, 1, 1)
            assert_refused(self, errors.BadLimit, told, 2, 1, heap)
            assert_refused(self, errors.BadLimit, behind, 2, 1, heap, 1)
        for thing in no_numbers():
            assert_refused(self, errors.BadNumber, step_by, 2, thing)
            assert_refused(self, errors.BadTaking, behind, 2, 9, 9, thing)
            assert_refused(self, errors.BadSum, whole, 2, [thing])
        for thing in no_lists():
            assert_refused(self, errors.BadSum, whole, 2, thing)

    def test_2_each_step_is_the_one_ahead_and_the_least_that_is_near_enough_together(self):
        for factor in FACTORS:
            row = row_by_words(factor, 90)
            self.assertEqual([step_by(factor, number) for number in range(90)], row)
        self.assertEqual(step_by(1, 3000), 2 ** 3000)
        assert_refused(self, errors.BadNumber, step_by, 1, 3001)
        assert_refused(self, errors.BadNumber, step_by, 1, -1)

    def test_3_each_number_has_just_one_sum(self):
        for factor in (1, 2, 3, 6, 30):
            for heap, sums in sums_by_total(factor, 90).items():
                self.assertEqual(sums, [sum_of(factor, heap)])
                self.assertEqual(whole(factor, sums[0]), heap)
            steps = steps_past(factor, 10 ** 40)
            for heap in GREAT_HEAPS:
                parts = sum_of(factor, heap)
                self.assertTrue(is_sum_by_words(factor, heap, parts, steps))
                self.assertEqual(whole(factor, parts), heap)
                assert_refused(self, errors.BadSum, whole, factor, [*parts, parts[-1]])

    def test_4_one_of_two_things_is_told_and_the_answer_shows_it(self):
        for factor in FACTORS:
            for (heap, limit), can_win in winners(factor, 20).items():
                answer = told(factor, heap, limit)
                self.assertIsInstance(answer, Answer)
                self.assertIs(type(answer), Won if can_win else Lost)
                self.assertIs(answer.shows(factor, heap, limit), True)
            for heap in GREAT_HEAPS:
                parts = sum_of(factor, heap)
                lost = told(factor, heap, parts[-1] - 1)
                self.assertIs(type(lost), Lost)
                self.assertEqual(lost.parts, parts)
                won = told(factor, heap, parts[-1])
                self.assertIs(type(won), Won)
                left, limit = behind(factor, heap, parts[-1], won.taking)
                self.assertIs(type(told(factor, left, limit)), Lost)
                for answer, other_limit in ((lost, parts[-1]), (won, parts[-1] - 1)):
                    self.assertIs(answer.shows(factor, heap, other_limit), False)


if __name__ == "__main__":
    unittest.main()
