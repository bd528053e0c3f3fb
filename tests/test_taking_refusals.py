"""What `told` and `behind` refuse, by which class, and which refusal comes first."""

import unittest

from takeagain.errors import BadFactor, BadHeap, BadLimit, BadTaking
from takeagain.taking import behind, told
from tests.support import assert_refused, no_factors, no_heaps, no_numbers

# What is wrong at each place, of some kinds: for two wrong things at once.
SOME_NO_FACTORS = (0, 31, -1, True, None, "2", [2], (2,), {2: 2})
SOME_NO_HEAPS = (-1, -10 ** 50, True, False, None, "9", [9], (9,), {9: 9})
SOME_NO_LIMITS = SOME_NO_HEAPS
SOME_NO_TAKINGS = (0, -1, 4, 10, 10 ** 50, True, False, None, "1", [1], (1,), {1: 1})


def no_limits():
    return no_heaps()


def no_takings():
    """Whatever is no taking from the heap 9 within the limit 3."""
    return [0, -1, -3, -10 ** 50, 4, 9, 10, 10 ** 50] + no_numbers()


class OneWrong(unittest.TestCase):
    def test_what_is_no_factor(self):
        for factor in no_factors():
            with self.subTest(kind=type(factor).__name__):
                assert_refused(self, BadFactor, told, factor, 9, 3)
                assert_refused(self, BadFactor, told, factor, 0, 0)
                assert_refused(self, BadFactor, behind, factor, 9, 3, 1)

    def test_what_is_no_heap(self):
        for heap in no_heaps():
            with self.subTest(kind=type(heap).__name__):
                for factor in (1, 2, 30):
                    assert_refused(self, BadHeap, told, factor, heap, 3)
                    assert_refused(self, BadHeap, told, factor, heap, 0)
                    assert_refused(self, BadHeap, behind, factor, heap, 3, 1)

    def test_what_is_no_limit(self):
        for limit in no_limits():
            with self.subTest(kind=type(limit).__name__):
                for factor in (1, 2, 30):
                    assert_refused(self, BadLimit, told, factor, 9, limit)
                    assert_refused(self, BadLimit, told, factor, 0, limit)
                    assert_refused(self, BadLimit, behind, factor, 9, limit, 1)

    def test_what_is_no_taking(self):
        for taking in no_takings():
            with self.subTest(kind=type(taking).__name__):
                for factor in (1, 2, 30):
                    assert_refused(self, BadTaking, behind, factor, 9, 3, taking)
                    assert_refused(self, BadTaking, behind, factor, 0, 3, taking)
                    assert_refused(self, BadTaking, behind, factor, 9, 0, taking)

    def test_a_taking_of_more_than_the_heap_or_more_than_the_limit(self):
        assert_refused(self, BadTaking, behind, 2, 3, 9, 4)
        assert_refused(self, BadTaking, behind, 2, 9, 3, 4)
        assert_refused(self, BadTaking, behind, 2, 3, 3, 4)
        assert_refused(self, BadTaking, behind, 2, 10 ** 40, 10 ** 40 - 1, 10 ** 40)
        assert_refused(self, BadTaking, behind, 2, 10 ** 40 - 1, 10 ** 40, 10 ** 40)

    def test_the_least_and_the_greatest_are_taken(self):
        for factor in (1, 30):
            for heap in (0, 10 ** 50):
                for limit in (0, 10 ** 50):
                    with self.subTest(factor=factor, heap=heap, limit=limit):
                        self.assertIs(told(factor, heap, limit).shows(factor, heap, limit), True)
            self.assertEqual(behind(factor, 1, 1, 1), (0, factor))


class TwoWrong(unittest.TestCase):
    def test_the_factor_comes_first(self):
        for factor in SOME_NO_FACTORS:
            for other in SOME_NO_HEAPS:
                with self.subTest(factor=factor, other=other):
                    assert_refused(self, BadFactor, told, factor, other, 3)
                    assert_refused(self, BadFactor, told, factor, 9, other)
                    assert_refused(self, BadFactor, told, factor, other, other)
                    assert_refused(self, BadFactor, behind, factor, other, 3, 1)
                    assert_refused(self, BadFactor, behind, factor, 9, other, 1)
            for taking in SOME_NO_TAKINGS:
                with self.subTest(factor=factor, taking=taking):
                    assert_refused(self, BadFactor, behind, factor, 9, 3, taking)
                    assert_refused(self, BadFactor, behind, factor, -1, -1, taking)

    def test_the_heap_comes_next(self):
        for heap in SOME_NO_HEAPS:
            for limit in SOME_NO_LIMITS:
                with self.subTest(heap=heap, limit=limit):
                    assert_refused(self, BadHeap, told, 2, heap, limit)
                    assert_refused(self, BadHeap, behind, 2, heap, limit, 1)
            for taking in SOME_NO_TAKINGS:
                with self.subTest(heap=heap, taking=taking):
                    assert_refused(self, BadHeap, behind, 2, heap, 3, taking)
                    assert_refused(self, BadHeap, behind, 2, heap, -1, taking)

    def test_the_limit_comes_ahead_of_the_taking(self):
        for limit in SOME_NO_LIMITS:
            for taking in SOME_NO_TAKINGS:
                with self.subTest(limit=limit, taking=taking):
                    assert_refused(self, BadLimit, behind, 2, 9, limit, taking)


if __name__ == "__main__":
    unittest.main()
