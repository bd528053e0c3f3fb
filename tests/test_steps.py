"""Point 2: the steps by a factor."""

import unittest

from takeagain.steps import step_by
from tests.support import FACTORS, row_by_words


class Steps(unittest.TestCase):
    def test_first_steps_written_out(self):
        written = {
            1: [1, 2, 4, 8, 16, 32, 64, 128],
            2: [1, 2, 3, 5, 8, 13, 21, 34, 55, 89],
            3: [1, 2, 3, 4, 6, 8, 11, 15, 21, 29, 40, 55, 76],
            4: [1, 2, 3, 4, 5, 7, 9, 12, 15, 19, 24, 31],
            30: [*range(1, 32), 33, 35, 37, 39, 41],
        }
        for factor, row in written.items():
            with self.subTest(factor=factor):
                self.assertEqual([step_by(factor, number) for number in range(len(row))], row)

    def test_first_steps_by_each_factor(self):
        for factor in FACTORS:
            with self.subTest(factor=factor):
                row = row_by_words(factor, 150)
                self.assertEqual([step_by(factor, number) for number in range(150)], row)

    def test_step_0_is_1_by_each_factor(self):
        for factor in FACTORS:
            with self.subTest(factor=factor):
                self.assertEqual(step_by(factor, 0), 1)

    def test_great_numbers_by_the_least_and_the_greatest_factor(self):
        for factor in (1, 2, 30):
            row = row_by_words(factor, 3001)
            for number in (500, 1000, 1999, 2500, 2999, 3000):
                with self.subTest(factor=factor, number=number):
                    self.assertEqual(step_by(factor, number), row[number])

    def test_by_the_factor_1_steps_double(self):
        self.assertEqual(step_by(1, 3000), 2 ** 3000)

    def test_a_step_is_a_plain_whole_number(self):
        for factor in (1, 30):
            for number in (0, 1, 3000):
                with self.subTest(factor=factor, number=number):
                    self.assertIs(type(step_by(factor, number)), int)


if __name__ == "__main__":
    unittest.main()
