"""The answers Lost and Won, and what `shows` says of them, told or made by hand."""

import unittest
from itertools import product

from takeagain.answers import Answer, Lost, Won
from takeagain.steps import sum_of
from takeagain.taking import told
from tests.support import GREAT_FACTORS, GREAT_HEAPS, SMALL_FACTORS, is_sum_by_words, row_by_words, steps_past, winners


class ShowsCase(unittest.TestCase):
    def assert_shows(self, expected, answer, factor, heap, limit):
        """It shows so, by True or False itself."""
        found = answer.shows(factor, heap, limit)
        self.assertIs(found, expected, (vars(answer), factor, heap, limit))


class Classes(unittest.TestCase):
    def test_both_are_straight_under_answer(self):
        self.assertEqual(Answer.__bases__, (object,))
        self.assertEqual(Lost.__bases__, (Answer,))
        self.assertEqual(Won.__bases__, (Answer,))

    def test_both_have_a_shows_of_their_own(self):
        for kind in (Lost, Won):
            with self.subTest(kind=kind.__name__):
                self.assertIn("shows", vars(kind))

    def test_each_is_of_its_class_and_of_answer_and_not_of_the_other(self):
        for answer in (Lost([8, 3]), Lost([]), told(2, 11, 2), told(2, 0, 5)):
            self.assertIs(type(answer), Lost)
            self.assertIsInstance(answer, Answer)
            self.assertNotIsInstance(answer, Won)
        for answer in (Won(3), Won(0), told(2, 11, 3), told(2, 1, 1)):
            self.assertIs(type(answer), Won)
            self.assertIsInstance(answer, Answer)
            self.assertNotIsInstance(answer, Lost)


class Fields(ShowsCase):
    def test_fields_are_what_was_handed_in(self):
        for parts in ([], [0], [8, 3], [-1, 5], [10 ** 50, 10 ** 50]):
            with self.subTest(parts=parts):
                self.assertEqual(Lost(parts).parts, parts)
                self.assertEqual(Lost(parts=parts).parts, parts)
                self.assertIs(type(Lost(parts).parts), list)
        for taking in (1, 0, -3, 10 ** 50):
            with self.subTest(taking=taking):
                self.assertEqual(Won(taking).taking, taking)
                self.assertEqual(Won(taking=taking).taking, taking)

    def test_the_list_is_copied(self):
        parts = [8, 3]
        answer = Lost(parts)
        self.assertIsNot(answer.parts, parts)
        parts.append(1)
        parts[0] = 99
        self.assertEqual(answer.parts, [8, 3])
        self.assert_shows(True, answer, 2, 11, 2)

    def test_two_answers_of_one_list_share_nothing(self):
        parts = [8, 3]
        first, second = Lost(parts), Lost(parts)
        first.parts.clear()
        self.assertEqual(second.parts, [8, 3])
        self.assertEqual(parts, [8, 3])

    def test_shows_changes_neither_field_nor_list(self):
        for parts in ([8, 3], [3, 8], [8, 8], [0], [], [-1]):
            answer = Lost(parts)
            kept = answer.parts
            for heap in (0, 11, 16):
                answer.shows(2, heap, 1)
            self.assertIs(answer.parts, kept)
            self.assertEqual(kept, parts)
        for taking in (3, 0, -1, 50):
            answer = Won(taking)
            answer.shows(2, 11, 5)
            self.assertEqual(answer.taking, taking)

    def test_a_list_that_is_changed_later_counts_as_it_stands_then(self):
        answer = Lost([8, 3])
        self.assert_shows(True, answer, 2, 11, 2)
        answer.parts.append(1)
        self.assert_shows(False, answer, 2, 11, 2)
        self.assert_shows(True, answer, 2, 12, 0)
        answer.parts.reverse()
        self.assert_shows(False, answer, 2, 12, 0)
        answer.parts.clear()
        self.assert_shows(True, answer, 2, 0, 7)

    def test_a_field_that_is_set_later_counts_as_it_stands_then(self):
        lost = Lost([3, 8])
        self.assert_shows(False, lost, 2, 11, 2)
        lost.parts = [8, 3]
        self.assert_shows(True, lost, 2, 11, 2)
        lost.parts = [13]
        self.assert_shows(False, lost, 2, 11, 2)
        self.assert_shows(True, lost, 2, 13, 12)
        won = Won(2)
        self.assert_shows(False, won, 2, 11, 3)
        won.taking = 3
        self.assert_shows(True, won, 2, 11, 3)
        won.taking = -3
        self.assert_shows(False, won, 2, 11, 3)


class SmallLost(ShowsCase):
    def test_lists_of_up_to_two_numbers_show_just_what_point_4_tells(self):
        lists = [list(row) for many in (0, 1, 2) for row in product(range(-1, 15), repeat=many)]
        for factor in SMALL_FACTORS:
            steps = row_by_words(factor, 30)
            for parts in lists:
                answer = Lost(parts)
                for heap in {0, 1, 4, 5, 11, 12, 13, abs(sum(parts))}:
                    is_sum = is_sum_by_words(factor, heap, parts, steps)
                    for limit in (0, 1, 2, 3, 4, 11, 12, 13, 50):
                        expected = is_sum and (not parts or parts[-1] > limit)
                        self.assert_shows(expected, answer, factor, heap, limit)

    def test_told_ones_show_of_other_factors_heaps_and_limits_what_point_4_tells(self):
        for factor in SMALL_FACTORS:
            for heap in range(18):
                lost = Lost(sum_of(factor, heap))
                for other_factor in SMALL_FACTORS:
                    steps = row_by_words(other_factor, 30)
                    for other_heap in range(18):
                        is_sum = is_sum_by_words(other_factor, other_heap, lost.parts, steps)
                        for limit in (0, 1, 2, 3, 5, 8, 20):
                            expected = is_sum and (not lost.parts or lost.parts[-1] > limit)
                            self.assert_shows(expected, lost, other_factor, other_heap, limit)

    def test_made_by_hand_and_written_out(self):
        self.assert_shows(True, Lost([8, 3]), 2, 11, 2)
        self.assert_shows(True, Lost([8, 3]), 2, 11, 0)
        self.assert_shows(False, Lost([8, 3]), 2, 11, 3)
        self.assert_shows(False, Lost([8, 3]), 2, 11, 10 ** 50)
        self.assert_shows(False, Lost([8, 3]), 3, 11, 1)
        self.assert_shows(True, Lost([11]), 3, 11, 10)
        self.assert_shows(False, Lost([8, 3]), 2, 12, 2)
        for parts in ([8], [3], [8, 3, 1], [8, 3, 3], [8, 8, 3], [3, 8], [8, 4], [9, 3], [7, 4], [8, 2, 1],
                      [5, 3, 2, 1], [11], [], [0], [8, 3, 0], [0, 8, 3], [8, 3, -1, 1], [13, -2], [-8, -3], [-11],
                      [10, 1], [8, 3, 10 ** 50], [10 ** 50]):
            for limit in (0, 1, 2, 3, 11):
                self.assert_shows(False, Lost(parts), 2, 11, limit)

    def test_only_none_shows_of_no_heap_and_at_any_limit(self):
        for factor in SMALL_FACTORS:
            for limit in (0, 1, 2, 10 ** 50):
                self.assert_shows(True, Lost([]), factor, 0, limit)
                self.assert_shows(False, Lost([]), factor, 1, limit)
                for parts in ([0], [1], [-1], [0, 0], [1, -1], [2, -1, -1]):
                    self.assert_shows(False, Lost(parts), factor, 0, limit)

    def test_true_and_false_are_no_numbers(self):
        self.assert_shows(False, Lost([True]), 2, 1, 0)
        self.assert_shows(False, Lost([8, 3, True]), 2, 12, 0)
        self.assert_shows(False, Lost([False]), 2, 0, 0)


class SmallWon(ShowsCase):
    def test_all_takings_show_just_what_trying_all_takings_finds(self):
        for factor in SMALL_FACTORS:
            can_win = winners(factor, 20)
            for heap in range(21):
                for limit in range(heap + 4):
                    for taking in range(-3, heap + 5):
                        expected = False
                        if 1 <= taking <= min(heap, limit):
                            left = heap - taking
                            expected = not can_win[left, min(factor * taking, left)]
                        self.assert_shows(expected, Won(taking), factor, heap, limit)

    def test_told_ones_show_of_other_factors_heaps_and_limits_what_point_4_tells(self):
        tables = {factor: winners(factor, 14) for factor in SMALL_FACTORS}
        answers = [told(factor, heap, heap) for factor in SMALL_FACTORS for heap in range(1, 15)]
        for answer in answers:
            self.assertIs(type(answer), Won)
            for factor in SMALL_FACTORS:
                for heap in range(15):
                    for limit in (0, 1, 2, 3, 4, 7, 14, 10 ** 45):
                        expected = False
                        if answer.taking <= min(heap, limit):
                            left = heap - answer.taking
                            expected = not tables[factor][left, min(factor * answer.taking, left)]
                        self.assert_shows(expected, answer, factor, heap, limit)

    def test_made_by_hand_and_written_out(self):
        self.assert_shows(True, Won(3), 2, 11, 3)
        self.assert_shows(True, Won(3), 2, 11, 5)
        self.assert_shows(False, Won(3), 2, 11, 2)
        self.assert_shows(False, Won(3), 3, 11, 5)
        self.assert_shows(True, Won(11), 2, 11, 11)
        self.assert_shows(True, Won(11), 2, 11, 10 ** 50)
        self.assert_shows(False, Won(11), 2, 11, 10)
        for taking in (2, 4, 1, 0, -1, -3, 12, 14, 10 ** 50, -10 ** 50):
            self.assert_shows(False, Won(taking), 2, 11, 11)

    def test_no_taking_shows_of_no_heap_or_of_no_limit(self):
        for factor in SMALL_FACTORS:
            for taking in (-1, 0, 1, 2):
                self.assert_shows(False, Won(taking), factor, 0, 0)
                self.assert_shows(False, Won(taking), factor, 0, 10)
                self.assert_shows(False, Won(taking), factor, 10, 0)

    def test_true_and_false_are_no_numbers(self):
        self.assert_shows(True, Won(1), 2, 1, 1)
        self.assert_shows(False, Won(True), 2, 1, 1)
        self.assert_shows(False, Won(False), 2, 1, 1)


class GreatShows(ShowsCase):
    def changed_sums(self, factor, heap, parts):
        """What isn't the heap's sum any more: made from it, or in its place."""
        made = [[heap], [], [0], [-heap], [0, *parts], [*parts, 0], [heap + 1, -1], [-part for part in parts],
                [*parts, -1, 1], [1] * 5, [heap, heap], parts[::-1], parts + parts, [2 * heap]]
        made += [[*parts[:at], *parts[at + 1:]] for at in range(len(parts))]
        made += [[*parts[:at], part, *parts[at:]] for at, part in enumerate(parts)]
        made += [[*parts[:at], part + by, *parts[at + 1:]] for at, part in enumerate(parts) for by in (-1, 1)]
        made += [[*parts[:at], parts[at + 1], parts[at], *parts[at + 2:]] for at in range(len(parts) - 1)]
        made += [[*parts, step] for step in (1, 2, 3)]
        made += [sum_of(other, heap) for other in GREAT_FACTORS if other != factor]
        made += [sum_of(factor, heap + by) for by in (-1, 1)]
        return [other for other in made if other != parts]

    def test_sums_of_great_heaps_made_by_hand(self):
        for factor in GREAT_FACTORS:
            steps = steps_past(factor, max(GREAT_HEAPS))
            for heap in GREAT_HEAPS:
                parts = sum_of(factor, heap)
                self.assertTrue(is_sum_by_words(factor, heap, parts, steps))
                for limit in (0, 1, parts[-1] - 1, parts[-1], parts[-1] + 1, heap - 1, heap, 10 * heap):
                    self.assert_shows(parts[-1] > limit, Lost(parts), factor, heap, limit)
                for other in self.changed_sums(factor, heap, parts):
                    for limit in (0, heap):
                        self.assert_shows(False, Lost(other), factor, heap, limit)

    def test_a_changed_sum_may_be_that_of_another_heap(self):
        for factor in GREAT_FACTORS:
            steps = steps_past(factor, 3 * max(GREAT_HEAPS))
            for heap in GREAT_HEAPS:
                for other in self.changed_sums(factor, heap, sum_of(factor, heap)):
                    total = abs(sum(other))
                    expected = is_sum_by_words(factor, total, other, steps)
                    self.assert_shows(expected, Lost(other), factor, total, 0)

    def test_takings_from_great_heaps_made_by_hand(self):
        for factor in GREAT_FACTORS:
            for heap in GREAT_HEAPS:
                least = sum_of(factor, heap)[-1]
                for limit in (least, least + 1, heap - 1, heap, 10 * heap):
                    self.assert_shows(True, Won(least), factor, heap, limit)
                    for taking in (0, -1, -least, -heap, heap + 1, limit + 1, 10 ** 60):
                        self.assert_shows(False, Won(taking), factor, heap, limit)
                    self.assert_shows(limit >= heap, Won(heap), factor, heap, limit)
                for limit in (0, least - 1):
                    for taking in (least, 1, least - 1, heap):
                        self.assert_shows(False, Won(taking), factor, heap, limit)

    def test_takings_beside_the_least_part_of_great_heaps(self):
        for factor in GREAT_FACTORS:
            for heap in GREAT_HEAPS:
                least = sum_of(factor, heap)[-1]
                for taking in (least - 1, least + 1, 2 * least):
                    if taking >= 1:
                        left = sum_of(factor, heap - taking)
                        expected = left[-1] > factor * taking
                        self.assert_shows(expected, Won(taking), factor, heap, heap)

    def test_a_taking_just_within_and_just_beyond_what_leaves_a_lost_heap(self):
        # Two steps of a row, as far apart as a sum asks for, and one place nearer.
        for factor in GREAT_FACTORS:
            row = list(steps_past(factor, 10 ** 40))
            step = row[-1]
            near = min(other for other in row if factor * other >= step)
            far = max(other for other in row if factor * other < step)
            self.assert_shows(True, Won(far), factor, step + far, far)
            self.assert_shows(False, Won(near), factor, step + near, near)


if __name__ == "__main__":
    unittest.main()
