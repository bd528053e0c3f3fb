"""Point 3: the sums by a factor."""

import unittest

from takeagain.errors import BadSum
from takeagain.steps import sum_of, whole
from tests.support import FACTORS, row_by_words, steps_past, sums_by_total

GREAT_HEAPS = (10 ** 40, 10 ** 40 - 1, 3 ** 90 + 7, 2 ** 200, 987654321 ** 7, int("123456789" * 60), 10 ** 1500 + 1)


class SumsCase(unittest.TestCase):
    def assert_is_sum(self, factor, heap, parts, steps):
        """The parts are steps that fall far enough and come to the heap; `whole` gives it back."""
        self.assertIs(type(parts), list)
        for part in parts:
            self.assertIs(type(part), int)
            self.assertTrue(part in steps, "a part is no step")
        for part, below in zip(parts, parts[1:]):
            self.assertGreater(part, factor * below)
        self.assertEqual(sum(parts), heap)
        self.assertEqual(whole(factor, parts), heap)


class Sums(SumsCase):
    def test_sums_written_out(self):
        written = [
            (1, 13, [8, 4, 1]), (1, 15, [8, 4, 2, 1]), (1, 3, [2, 1]), (1, 64, [64]),
            (2, 4, [3, 1]), (2, 12, [8, 3, 1]), (2, 20, [13, 5, 2]), (2, 100, [89, 8, 3]),
            (3, 5, [4, 1]), (3, 7, [6, 1]), (3, 10, [8, 2]), (3, 28, [21, 6, 1]),
            (30, 30, [30]), (30, 31, [31]), (30, 32, [31, 1]), (30, 33, [33]), (30, 34, [33, 1]),
        ]
        for factor, heap, parts in written:
            with self.subTest(factor=factor, heap=heap):
                self.assertEqual(sum_of(factor, heap), parts)
                self.assertEqual(whole(factor, parts), heap)

    def test_the_empty_sum_comes_to_0_by_each_factor(self):
        for factor in FACTORS:
            with self.subTest(factor=factor):
                self.assertEqual(sum_of(factor, 0), [])
                self.assertIs(type(sum_of(factor, 0)), list)
                self.assertEqual(whole(factor, []), 0)
                self.assertIs(type(whole(factor, [])), int)

    def test_small_heaps_have_just_the_one_sum_that_is_told(self):
        for factor, most in ((1, 130), (2, 150), (3, 150), (4, 150), (7, 130), (29, 140), (30, 140)):
            for heap, sums in sums_by_total(factor, most).items():
                with self.subTest(factor=factor, heap=heap):
                    self.assertEqual(sums, [sum_of(factor, heap)])
                    self.assertEqual(whole(factor, sums[0]), heap)

    def test_small_heaps_by_each_factor(self):
        for factor in FACTORS:
            steps = row_by_words(factor, 210)
            for heap in range(200):
                with self.subTest(factor=factor, heap=heap):
                    self.assert_is_sum(factor, heap, sum_of(factor, heap), steps)

    def test_heaps_beside_steps(self):
        for factor in (1, 2, 3, 10, 30):
            row = row_by_words(factor, 300)
            steps = dict.fromkeys(row)
            for step in row:
                with self.subTest(factor=factor, step=step):
                    self.assertEqual(sum_of(factor, step), [step])
                    self.assertEqual(whole(factor, [step]), step)
                    self.assert_is_sum(factor, step - 1, sum_of(factor, step - 1), steps)
                    self.assert_is_sum(factor, step + 1, sum_of(factor, step + 1), steps)

    def test_great_heaps(self):
        for factor in (1, 2, 3, 17, 30):
            steps = steps_past(factor, max(GREAT_HEAPS))
            for heap in GREAT_HEAPS:
                with self.subTest(factor=factor, bits=heap.bit_length()):
                    self.assert_is_sum(factor, heap, sum_of(factor, heap), steps)

    def test_great_heaps_by_each_factor(self):
        for factor in FACTORS:
            heaps = [10 ** 40, 10 ** 40 - 1, 10 ** 40 + factor, 2 ** 200 - 1, 3 ** 90 + 7]
            steps = steps_past(factor, max(heaps))
            for heap in heaps:
                with self.subTest(factor=factor, heap=heap):
                    self.assert_is_sum(factor, heap, sum_of(factor, heap), steps)

    def test_sums_of_many_parts(self):
        for factor in (1, 2, 30):
            row = row_by_words(factor, 400)
            parts = []
            for step in reversed(row):
                if not parts or parts[-1] > factor * step:
                    parts.append(step)
            with self.subTest(factor=factor):
                self.assertEqual(whole(factor, parts), sum(parts))
                self.assertEqual(sum_of(factor, sum(parts)), parts)


class Lists(unittest.TestCase):
    def test_a_told_sum_may_be_changed_by_the_caller(self):
        for factor, heap in ((1, 13), (2, 100), (30, 10 ** 45), (2, 0)):
            with self.subTest(factor=factor, heap=heap):
                first = sum_of(factor, heap)
                kept = list(first)
                first.reverse()
                first.append(7)
                self.assertEqual(sum_of(factor, heap), kept)
                self.assertIsNot(sum_of(factor, heap), sum_of(factor, heap))
                self.assertEqual(whole(factor, kept), heap)

    def test_whole_changes_nothing_of_what_it_is_handed(self):
        for parts in ([], [89, 8, 3], [1]):
            with self.subTest(parts=parts):
                before = list(parts)
                whole(2, parts)
                self.assertEqual(parts, before)

    def test_whole_changes_nothing_of_what_it_refuses(self):
        inner = [3]
        for parts in ([3, 8], [3, 3], [5, inner], [7], [4, 0], ["5", None]):
            with self.subTest(parts=parts):
                before = list(parts)
                with self.assertRaises(BadSum):
                    whole(2, parts)
                self.assertEqual(parts, before)
        self.assertEqual(inner, [3])

    def test_whole_keeps_nothing_of_what_it_was_handed(self):
        parts = [8, 3]
        self.assertEqual(whole(2, parts), 11)
        parts.append(1)
        self.assertEqual(whole(2, parts), 12)
        parts.append(1)
        with self.assertRaises(BadSum):
            whole(2, parts)
        parts[2:] = []
        self.assertEqual(whole(2, parts), 11)


if __name__ == "__main__":
    unittest.main()
