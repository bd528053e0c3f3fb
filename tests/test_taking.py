"""Point 4: who wins from a heap within a limit, by which taking, and what stands behind a taking."""

import unittest
from random import Random

from takeagain.answers import Answer, Lost, Won
from takeagain.errors import BadTaking
from takeagain.steps import sum_of
from takeagain.taking import behind, told
from tests.support import (FACTORS, GREAT_FACTORS, GREAT_HEAPS, SMALL_FACTORS, assert_refused,
                           is_sum_by_words, steps_past, sums_by_total, winners)


def great_heaps(factor):
    """Heaps of forty figures: some as they come, some steps, some beside steps, some sums of few steps."""
    row = [step for step in steps_past(factor, 10 ** 40) if 10 ** 38 < step < 10 ** 40]
    far = row[-1]
    near = max(step for step in steps_past(factor, far) if factor * step < far)
    return [*GREAT_HEAPS, *row[-3:], far - 1, far + 1, far + near, far + near - 1]


class TakingCase(unittest.TestCase):
    def assert_told(self, answer, factor, heap, limit, steps):
        """What is told of a great heap is as point 4 tells; the sums are held against the steps."""
        self.assertIsInstance(answer, Answer)
        if type(answer) is Lost:
            self.assertTrue(is_sum_by_words(factor, heap, answer.parts, steps))
            self.assertTrue(not answer.parts or answer.parts[-1] > limit)
        else:
            self.assertIs(type(answer), Won)
            self.assertTrue(1 <= answer.taking <= min(heap, limit))
            left = sum_of(factor, heap - answer.taking)
            self.assertTrue(is_sum_by_words(factor, heap - answer.taking, left, steps))
            self.assertTrue(not left or left[-1] > factor * answer.taking)
        self.assertIs(answer.shows(factor, heap, limit), True)


class SmallTold(TakingCase):
    def test_won_is_told_just_where_trying_all_takings_finds_a_way(self):
        for factor in SMALL_FACTORS:
            can_win = winners(factor, 27)
            for heap in range(28):
                for limit in [*range(heap + 4), 10 ** 6, 10 ** 50]:
                    with self.subTest(factor=factor, heap=heap, limit=limit):
                        answer = told(factor, heap, limit)
                        self.assertIs(type(answer), Won if can_win[heap, min(limit, heap)] else Lost)
                        self.assertIs(answer.shows(factor, heap, limit), True)

    def test_behind_the_taking_told_the_other_cannot_win(self):
        for factor in SMALL_FACTORS:
            can_win = winners(factor, 27)
            for heap in range(28):
                for limit in [*range(heap + 4), 10 ** 50]:
                    answer = told(factor, heap, limit)
                    if type(answer) is Won:
                        with self.subTest(factor=factor, heap=heap, limit=limit):
                            self.assertIs(type(answer.taking), int)
                            self.assertTrue(1 <= answer.taking <= min(heap, limit))
                            left = heap - answer.taking
                            self.assertFalse(can_win[left, min(factor * answer.taking, left)])
                            self.assertIs(type(told(factor, *behind(factor, heap, limit, answer.taking))), Lost)

    def test_a_lost_one_has_the_heaps_sum_whose_last_step_is_more_than_the_limit(self):
        for factor in SMALL_FACTORS:
            sums = sums_by_total(factor, 27)
            for heap in range(28):
                for limit in range(heap + 4):
                    answer = told(factor, heap, limit)
                    if type(answer) is Lost:
                        with self.subTest(factor=factor, heap=heap, limit=limit):
                            self.assertEqual([answer.parts], sums[heap])
                            self.assertIs(type(answer.parts), list)
                            self.assertTrue(not answer.parts or answer.parts[-1] > limit)

    def test_small_heaps_by_each_factor(self):
        for factor in FACTORS:
            can_win = winners(factor, 40)
            wrong = [(heap, limit) for heap, limit in can_win
                     if (type(told(factor, heap, limit)) is Won) is not can_win[heap, limit]]
            with self.subTest(factor=factor):
                self.assertEqual(wrong, [])

    def test_written_out(self):
        self.assertEqual(told(2, 100, 2).parts, [89, 8, 3])
        self.assertEqual(told(2, 100, 3).taking, 3)
        self.assertEqual(told(2, 13, 12).parts, [13])
        self.assertEqual(told(2, 13, 13).taking, 13)
        self.assertEqual(told(1, 12, 3).parts, [8, 4])
        self.assertEqual(told(1, 12, 4).taking, 4)
        self.assertEqual(told(3, 10, 1).parts, [8, 2])
        self.assertEqual(told(3, 10, 2).taking, 2)

    def test_nothing_to_take_is_lost(self):
        for factor in FACTORS:
            for limit in (0, 1, 2, 10 ** 50):
                with self.subTest(factor=factor, limit=limit):
                    answer = told(factor, 0, limit)
                    self.assertIs(type(answer), Lost)
                    self.assertEqual(answer.parts, [])
            for heap in (1, 2, 25, 10 ** 40):
                with self.subTest(factor=factor, heap=heap):
                    answer = told(factor, heap, 0)
                    self.assertIs(type(answer), Lost)
                    self.assertEqual(answer.parts, sum_of(factor, heap))

    def test_games_played_to_their_end_are_won_by_whom_won_is_told(self):
        drawn = Random(4)
        for factor in SMALL_FACTORS:
            for heap in range(1, 60):
                limit = sum_of(factor, heap)[-1]
                while heap:
                    answer = told(factor, heap, limit)
                    self.assertIs(type(answer), Won)
                    heap, limit = behind(factor, heap, limit, answer.taking)
                    self.assertIs(type(told(factor, heap, limit)), Lost)
                    if heap:
                        heap, limit = behind(factor, heap, limit, drawn.randint(1, min(heap, limit)))
                        self.assertGreater(heap, 0, "the one who had lost took last")


class GreatTold(TakingCase):
    def test_at_limits_beside_the_least_part_and_the_heap(self):
        for factor in GREAT_FACTORS:
            steps = steps_past(factor, 10 ** 41)
            for heap in great_heaps(factor):
                least = sum_of(factor, heap)[-1]
                for limit in (least, least - 1, heap, heap - 1, 0, 1, least + 1, heap + 1, 10 ** 60):
                    with self.subTest(factor=factor, heap=heap, limit=limit):
                        answer = told(factor, heap, limit)
                        self.assertIs(type(answer), Lost if least > limit else Won)
                        self.assert_told(answer, factor, heap, limit, steps)

    def test_by_each_factor(self):
        for factor in FACTORS:
            steps = steps_past(factor, 10 ** 41)
            for heap in (10 ** 40 - 1, 7 ** 47, list(steps)[-2]):
                least = sum_of(factor, heap)[-1]
                for limit in (least, least - 1, heap):
                    with self.subTest(factor=factor, heap=heap, limit=limit):
                        self.assert_told(told(factor, heap, limit), factor, heap, limit, steps)

    def test_a_step_alone_is_lost_at_each_limit_below_it(self):
        for factor in GREAT_FACTORS:
            for step in list(steps_past(factor, 10 ** 40))[-5:]:
                with self.subTest(factor=factor, step=step):
                    self.assertEqual(told(factor, step, step - 1).parts, [step])
                    self.assertEqual(told(factor, step, step).taking, step)

    def test_drawn_takings_from_a_lost_one_lead_to_none_that_is_lost(self):
        drawn = Random(20)
        for factor in GREAT_FACTORS:
            steps = steps_past(factor, 10 ** 41)
            for heap in great_heaps(factor):
                limit = sum_of(factor, heap)[-1] - 1
                self.assertIs(type(told(factor, heap, limit)), Lost)
                if limit:
                    near = [1, limit, max(1, limit // factor), max(1, limit // 2)]
                    for taking in near + [drawn.randint(1, limit) for _ in range(20)]:
                        with self.subTest(factor=factor, heap=heap, taking=taking):
                            left, next_limit = behind(factor, heap, limit, taking)
                            answer = told(factor, left, next_limit)
                            self.assertIs(type(answer), Won)
                            self.assert_told(answer, factor, left, next_limit, steps)

    def test_great_games_stay_won(self):
        drawn = Random(7)
        for factor in GREAT_FACTORS:
            for heap in great_heaps(factor):
                limit = heap - 1 if len(sum_of(factor, heap)) > 1 else heap
                for _ in range(12):
                    answer = told(factor, heap, limit)
                    self.assertIs(type(answer), Won)
                    heap, limit = behind(factor, heap, limit, answer.taking)
                    self.assertIs(type(told(factor, heap, limit)), Lost)
                    if not heap:
                        break
                    heap, limit = behind(factor, heap, limit, drawn.randint(1, min(heap, limit)))


class NewThings(unittest.TestCase):
    def test_the_list_of_a_lost_one_may_be_changed_and_the_same_asked_again(self):
        for factor, heap, limit in ((2, 100, 2), (1, 12, 3), (30, 10 ** 40, 0), (2, 0, 5)):
            with self.subTest(factor=factor, heap=heap, limit=limit):
                first = told(factor, heap, limit)
                kept = list(first.parts)
                first.parts.reverse()
                first.parts.append(7)
                second = told(factor, heap, limit)
                self.assertEqual(second.parts, kept)
                self.assertIsNot(second, first)
                self.assertIsNot(second.parts, told(factor, heap, limit).parts)
                self.assertEqual(sum_of(factor, heap), kept)
                self.assertIs(first.shows(factor, heap, limit), False)

    def test_the_taking_of_a_won_one_may_be_changed_and_the_same_asked_again(self):
        first = told(2, 100, 3)
        first.taking = 50
        second = told(2, 100, 3)
        self.assertIsNot(second, first)
        self.assertEqual(second.taking, 3)

    def test_what_is_refused_is_not_changed(self):
        for thing in ([3], {3: 3}, [[3]]):
            before = repr(thing)
            for given in ((thing, 9, 9), (2, thing, 9), (2, 9, thing)):
                with self.assertRaises(ValueError):
                    told(*given)
            for given in ((thing, 9, 9, 1), (2, thing, 9, 1), (2, 9, thing, 1), (2, 9, 9, thing)):
                with self.assertRaises(ValueError):
                    behind(*given)
            self.assertEqual(repr(thing), before)


class Behind(unittest.TestCase):
    def assert_behind(self, factor, heap, limit, taking):
        pair = behind(factor, heap, limit, taking)
        self.assertIs(type(pair), tuple)
        self.assertEqual(pair, (heap - taking, factor * taking))
        self.assertEqual([type(number) for number in pair], [int, int])

    def test_written_out(self):
        self.assertEqual(behind(2, 11, 3, 3), (8, 6))
        self.assertEqual(behind(1, 12, 50, 12), (0, 12))
        self.assertEqual(behind(30, 10 ** 40, 1, 1), (10 ** 40 - 1, 30))

    def test_takings_1_and_the_greatest_that_is_one(self):
        for factor in FACTORS:
            for heap, limit in ((1, 1), (5, 3), (3, 5), (4, 4), (10 ** 40, 7), (7, 10 ** 40), (10 ** 40, 10 ** 39)):
                with self.subTest(factor=factor, heap=heap, limit=limit):
                    self.assert_behind(factor, heap, limit, 1)
                    self.assert_behind(factor, heap, limit, min(heap, limit))

    def test_one_beyond_the_greatest_is_refused(self):
        for factor in FACTORS:
            for heap, limit in ((0, 0), (0, 5), (5, 0), (1, 1), (5, 3), (3, 5), (4, 4), (10 ** 40, 7), (7, 10 ** 40)):
                with self.subTest(factor=factor, heap=heap, limit=limit):
                    assert_refused(self, BadTaking, behind, factor, heap, limit, min(heap, limit) + 1)
                    assert_refused(self, BadTaking, behind, factor, heap, limit, max(heap, limit) + 1)

    def test_all_small_takings(self):
        for heap in range(8):
            for limit in range(10):
                for taking in range(-2, 12):
                    with self.subTest(heap=heap, limit=limit, taking=taking):
                        if 1 <= taking <= min(heap, limit):
                            self.assert_behind(3, heap, limit, taking)
                        else:
                            assert_refused(self, BadTaking, behind, 3, heap, limit, taking)


if __name__ == "__main__":
    unittest.main()
