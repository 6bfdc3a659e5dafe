"""median at ordinary inputs, at its corners and where it refuses; the answers are worked out by hand."""

import itertools
import unittest

from majorityrows.panel import median


class RowOfThree(unittest.TestCase):
    def each_order(self, m, three, row):
        for x, y, z in itertools.permutations(three):
            with self.subTest(m=m, x=x, y=y, z=z):
                self.assertEqual(median(m, x, y, z), [row])

    def test_one_question(self):
        self.each_order(1, (0, 0, 0), 0)
        self.each_order(1, (0, 0, 1), 0)
        self.each_order(1, (0, 1, 1), 1)
        self.each_order(1, (1, 1, 1), 1)

    def test_two_questions(self):
        self.each_order(2, (0, 1, 3), 1)
        self.each_order(2, (1, 2, 3), 3)
        self.each_order(2, (0, 1, 2), 0)
        self.each_order(2, (0, 2, 3), 2)

    def test_three_questions(self):
        # 001, 010, 111
        self.each_order(3, (1, 2, 7), 3)
        # 011, 101, 000
        self.each_order(3, (3, 5, 0), 1)
        # 100, 110, 011
        self.each_order(3, (4, 6, 3), 6)

    def test_four_questions(self):
        # 1001, 1010, 1100
        self.each_order(4, (9, 10, 12), 8)
        # 0111, 1011, 1101
        self.each_order(4, (7, 11, 13), 15)
        # 0110, 1100, 0101
        self.each_order(4, (6, 12, 5), 4)

    def test_five_questions(self):
        # 10011, 11001, 11100
        self.each_order(5, (19, 25, 28), 25)
        # 00011, 01101, 10110
        self.each_order(5, (3, 13, 22), 7)
        # 10101, 10010, 01101
        self.each_order(5, (21, 18, 13), 21)

    def test_it_is_not_the_one_between(self):
        # By size 2 lies between 1 and 4, but no two of them say yes to anything.
        self.each_order(3, (1, 2, 4), 0)
        self.each_order(5, (15, 16, 17), 17)

    def test_each_question_by_itself(self):
        for m in range(1, 6):
            for q in range(m):
                self.each_order(m, (2 ** q, 2 ** q, 0), 2 ** q)
                self.each_order(m, (2 ** q, 0, 0), 0)
                rest = 2 ** m - 1 - 2 ** q
                self.each_order(m, (rest, rest, 2 ** m - 1), rest)
                self.each_order(m, (rest, 2 ** m - 1, 2 ** m - 1), 2 ** m - 1)


class Corners(unittest.TestCase):
    def test_all_three_the_same(self):
        for m in range(1, 6):
            for row in range(2 ** m):
                self.assertEqual(median(m, row, row, row), [row])

    def test_two_the_same(self):
        for m in range(1, 6):
            for row, other in itertools.product(range(2 ** m), repeat=2):
                self.assertEqual(median(m, row, row, other), [row])
                self.assertEqual(median(m, row, other, row), [row])
                self.assertEqual(median(m, other, row, row), [row])

    def test_three_each_alone_on_another_question(self):
        for x, y, z in itertools.permutations((1, 2, 4)):
            self.assertEqual(median(3, x, y, z), [0])
            self.assertEqual(median(3, 7 - x, 7 - y, 7 - z), [7])
            self.assertEqual(median(5, 4 * x, 4 * y, 4 * z), [0])
            self.assertEqual(median(5, 31 - 4 * x, 31 - 4 * y, 31 - 4 * z), [31])

    def test_more_questions_change_nothing_while_all_say_no_to_them(self):
        for m in range(3, 6):
            self.assertEqual(median(m, 1, 2, 7), [3])
            self.assertEqual(median(m, 6, 5, 3), [7])


class Refusals(unittest.TestCase):
    def refused(self, m, x, y, z):
        with self.subTest(m=m, x=x, y=y, z=z):
            self.assertEqual(median(m, x, y, z), [-22])

    def test_how_many_questions(self):
        # Row 0 is a row of any number of questions, so m is the one cause here.
        for m in (0, 6, 7, 8, 31, 32, 255, 256, 4294967295):
            self.refused(m, 0, 0, 0)
        for m in (1, 2, 3, 4, 5):
            self.assertEqual(median(m, 0, 0, 0), [0])

    def test_a_row_too_large(self):
        for m in range(1, 6):
            highest = 2 ** m - 1
            for row in (highest + 1, highest + 2, 32, 255, 256, 2 ** 31, 2 ** 32 - 1):
                self.refused(m, row, 0, 0)
                self.refused(m, 0, row, 0)
                self.refused(m, 0, 0, row)
                self.refused(m, row, highest, highest)
                self.refused(m, highest, row, highest)
                self.refused(m, highest, highest, row)

    def test_the_highest_row(self):
        for m in range(1, 6):
            highest = 2 ** m - 1
            self.assertEqual(median(m, highest, 0, 0), [0])
            self.assertEqual(median(m, 0, highest, 0), [0])
            self.assertEqual(median(m, 0, 0, highest), [0])
            self.assertEqual(median(m, highest, highest, 0), [highest])
            self.assertEqual(median(m, highest, 0, highest), [highest])
            self.assertEqual(median(m, 0, highest, highest), [highest])
            self.assertEqual(median(m, highest, highest, highest), [highest])

    def test_several_causes_at_once(self):
        for m in range(1, 6):
            above = 2 ** m
            self.refused(m, above, above, 0)
            self.refused(m, above, 0, above)
            self.refused(m, 0, above, above)
            self.refused(m, above, above, above)
        self.refused(0, 1, 1, 1)
        self.refused(0, 1, 0, 0)
        self.refused(6, 64, 0, 0)
        self.refused(6, 63, 64, 63)
        self.refused(4294967295, 4294967295, 4294967295, 4294967295)

    def test_the_same_rows_with_another_number_of_questions(self):
        self.assertEqual(median(3, 4, 7, 5), [5])
        self.refused(2, 4, 7, 5)
        self.assertEqual(median(5, 16, 1, 17), [17])
        self.refused(4, 16, 1, 17)

    def test_numbers_outside_their_range(self):
        self.refused(-1, 0, 0, 0)
        self.refused(4294967296, 0, 0, 0)
        for row in (-1, -2, -2 ** 31, 4294967296):
            self.refused(2, row, 0, 0)
            self.refused(2, 0, row, 0)
            self.refused(2, 0, 0, row)

    def test_true_and_false_are_no_numbers(self):
        self.refused(True, 0, 0, 0)
        self.refused(False, 0, 0, 0)
        for row in (True, False):
            self.refused(1, row, 0, 1)
            self.refused(1, 0, row, 1)
            self.refused(1, 0, 1, row)

    def test_other_kinds(self):
        for other in ("1", None, 1.0, [1], (1,), {}):
            self.refused(other, 0, 0, 0)
            self.refused(2, other, 0, 0)
            self.refused(2, 0, other, 0)
            self.refused(2, 0, 0, other)


if __name__ == "__main__":
    unittest.main()
