"""What the functions of takeagain.steps refuse, by which class, and which refusal comes first."""

import unittest

from takeagain.errors import BadFactor, BadHeap, BadNumber, BadSum
from takeagain.steps import step_by, sum_of, whole
from tests.support import assert_refused, no_factors, no_heaps, no_lists, no_numbers, row_by_words


def no_step_numbers():
    return [-1, -2, -3000, 3001, 3002, 10 ** 6, 10 ** 50, -10 ** 50] + no_numbers()


def no_sums_by_2():
    """Lists that are no sums by the factor 2, whose steps are 1, 2, 3, 5, 8, 13, 21 and so on."""
    return [
        [0], [-1], [5, 0], [0, 0], [5, -2], [8, -3], [-5, -8], [0, 5], [-8, 16],
        [4], [7], [6, 2], [8, 4], [12], [10 ** 40], [22, 1],
        [1, 2], [1, 3], [3, 8], [1, 3, 8], [8, 1, 3],
        [2, 1], [3, 2], [5, 3], [8, 5], [13, 8, 5], [8, 3, 2], [21, 5, 3, 1],
        [1, 1], [2, 2], [8, 8], [8, 8, 3], [8, 3, 3],
    ]


class BadFactors(unittest.TestCase):
    def test_each_function_refuses_what_is_no_factor(self):
        for function, given in ((step_by, 3), (sum_of, 3), (whole, [3])):
            for factor in no_factors():
                with self.subTest(function=function.__name__, kind=type(factor).__name__):
                    assert_refused(self, BadFactor, function, factor, given)

    def test_the_least_and_the_greatest_factor_are_taken(self):
        for factor in (1, 30):
            with self.subTest(factor=factor):
                self.assertEqual(step_by(factor, 1), 2)
                self.assertEqual(sum_of(factor, 2), [2])
                self.assertEqual(whole(factor, [2]), 2)

    def test_the_factor_is_refused_first(self):
        for factor in no_factors():
            with self.subTest(kind=type(factor).__name__):
                for number in (-1, 3001, True, None, "1"):
                    assert_refused(self, BadFactor, step_by, factor, number)
                for heap in (-1, True, None, "1"):
                    assert_refused(self, BadFactor, sum_of, factor, heap)
                for parts in (None, (1,), [1, 1], [True], ["1"], [-1]):
                    assert_refused(self, BadFactor, whole, factor, parts)


class BadNumbers(unittest.TestCase):
    def test_step_by_refuses_what_is_no_number_of_a_step(self):
        for factor in (1, 2, 30):
            for number in no_step_numbers():
                with self.subTest(factor=factor, kind=type(number).__name__):
                    assert_refused(self, BadNumber, step_by, factor, number)

    def test_the_least_and_the_greatest_number_are_taken(self):
        self.assertEqual(step_by(1, 0), 1)
        self.assertEqual(step_by(1, 3000), 2 ** 3000)


class BadHeaps(unittest.TestCase):
    def test_sum_of_refuses_what_is_no_heap(self):
        for factor in (1, 2, 30):
            for heap in no_heaps():
                with self.subTest(factor=factor, kind=type(heap).__name__):
                    assert_refused(self, BadHeap, sum_of, factor, heap)


class BadSums(unittest.TestCase):
    def test_whole_refuses_what_is_no_list(self):
        for factor in (1, 2, 30):
            for parts in no_lists():
                with self.subTest(factor=factor, kind=type(parts).__name__):
                    assert_refused(self, BadSum, whole, factor, parts)

    def test_whole_refuses_lists_with_what_is_no_whole_number(self):
        for factor in (1, 2, 30):
            for part in no_numbers():
                with self.subTest(factor=factor, kind=type(part).__name__):
                    assert_refused(self, BadSum, whole, factor, [part])
                    assert_refused(self, BadSum, whole, factor, [part, 1])
                    assert_refused(self, BadSum, whole, factor, [200, part])

    def test_whole_refuses_a_list_that_holds_itself(self):
        parts = [1]
        parts.append(parts)
        assert_refused(self, BadSum, whole, 2, parts)

    def test_whole_refuses_lists_of_numbers_that_are_no_sums(self):
        for parts in no_sums_by_2():
            with self.subTest(parts=parts):
                assert_refused(self, BadSum, whole, 2, parts)

    def test_the_next_part_may_come_just_below_the_nearness_told(self):
        for factor in (1, 2, 3, 7, 30):
            row = row_by_words(factor, 60)
            for step in row:
                for below in row:
                    with self.subTest(factor=factor, step=step, below=below):
                        if step > factor * below:
                            self.assertEqual(whole(factor, [step, below]), step + below)
                        else:
                            assert_refused(self, BadSum, whole, factor, [step, below])

    def test_single_numbers_are_sums_where_they_are_steps(self):
        for factor in (1, 2, 3, 7, 30):
            steps = row_by_words(factor, 310)
            for number in range(1, 300):
                with self.subTest(factor=factor, number=number):
                    if number in steps:
                        self.assertEqual(whole(factor, [number]), number)
                    else:
                        assert_refused(self, BadSum, whole, factor, [number])

    def test_a_sum_by_one_factor_need_not_be_one_by_another(self):
        self.assertEqual(whole(1, [4, 2]), 6)
        assert_refused(self, BadSum, whole, 2, [4, 2])
        self.assertEqual(whole(2, [5, 2]), 7)
        assert_refused(self, BadSum, whole, 3, [5, 2])

    def test_great_parts_one_off_are_refused(self):
        for factor in (1, 2, 30):
            parts = sum_of(factor, 10 ** 45 + 3)
            for at in range(len(parts)):
                for change in (-1, 1):
                    wrong = list(parts)
                    wrong[at] += change
                    if wrong != sum_of(factor, sum(wrong)):
                        with self.subTest(factor=factor, at=at, change=change):
                            assert_refused(self, BadSum, whole, factor, wrong)


if __name__ == "__main__":
    unittest.main()
