"""counts at ordinary inputs and at the document's corners; the answers are worked out by hand."""

import unittest

from majorityrows.panel import counts


class OrdinaryPanels(unittest.TestCase):
    def test_one_question(self):
        self.assertEqual(counts(1, [0, 1], [1, 0, 1]), [1, 2])

    def test_two_questions(self):
        self.assertEqual(counts(2, [0, 1, 3], [3, 1, 0]), [2, 2, 1])
        self.assertEqual(counts(2, [2, 0], [2, 2, 0]), [2, 0, 2])

    def test_three_questions(self):
        self.assertEqual(counts(3, [0, 1, 2, 7], [1, 2, 7]), [3, 2, 2, 1])

    def test_four_questions(self):
        # 1001, 1010, 1100, 0111
        self.assertEqual(counts(4, [9, 10, 12, 7], [9, 10, 12, 7]), [4, 2, 2, 2, 3])

    def test_five_questions(self):
        # 10101, 10010, 01101, 10111, 00100
        self.assertEqual(counts(5, [21, 18, 13, 23, 4], [21, 18, 13, 23, 4]), [5, 3, 2, 4, 1, 3])

    def test_each_question_has_its_own_place(self):
        self.assertEqual(counts(5, [1], [1]), [5, 1, 0, 0, 0, 0])
        self.assertEqual(counts(5, [2], [2]), [5, 0, 1, 0, 0, 0])
        self.assertEqual(counts(5, [4], [4]), [5, 0, 0, 1, 0, 0])
        self.assertEqual(counts(5, [8], [8]), [5, 0, 0, 0, 1, 0])
        self.assertEqual(counts(5, [16], [16]), [5, 0, 0, 0, 0, 1])

    def test_judges_who_say_the_same_count_each(self):
        self.assertEqual(counts(2, [0, 1, 2], [2, 2, 2, 1, 0]), [2, 1, 3])

    def test_rows_nobody_says_do_not_count(self):
        self.assertEqual(counts(3, [7, 6, 5, 0], [0, 0, 5]), [3, 1, 0, 1])

    def test_fewer_answers_than_the_rows_could_have(self):
        self.assertEqual(counts(3, [0, 1], [1, 1, 0]), [3, 2, 0, 0])
        self.assertEqual(counts(4, [0, 1], [1, 1, 0]), [4, 2, 0, 0, 0])


class Corners(unittest.TestCase):
    def test_one_judge(self):
        self.assertEqual(counts(1, [0], [0]), [1, 0])
        self.assertEqual(counts(1, [1], [1]), [1, 1])
        self.assertEqual(counts(3, [5, 2], [5]), [3, 1, 0, 1])

    def test_two_judges_and_a_tie(self):
        self.assertEqual(counts(1, [0, 1], [0, 1]), [1, 1])
        self.assertEqual(counts(2, [1, 2], [1, 2]), [2, 1, 1])
        self.assertEqual(counts(3, [3, 6], [3, 6]), [3, 1, 2, 1])

    def test_rules_of_one_row(self):
        self.assertEqual(counts(3, [5], [5, 5, 5]), [3, 3, 0, 3])
        self.assertEqual(counts(5, [31], [31] * 15), [5, 15, 15, 15, 15, 15])
        self.assertEqual(counts(5, [0], [0] * 15), [5, 0, 0, 0, 0, 0])

    def test_all_rows_may_stand(self):
        self.assertEqual(counts(1, [0, 1], [0, 0, 1]), [1, 1])
        self.assertEqual(counts(2, [0, 1, 2, 3], [0, 1, 2, 3]), [2, 2, 2])
        self.assertEqual(counts(3, list(range(8)), list(range(8))), [3, 4, 4, 4])
        self.assertEqual(counts(4, list(range(16)), list(range(1, 16))), [4, 8, 8, 8, 8])
        self.assertEqual(counts(5, list(range(32)), [3, 13, 22]), [5, 2, 2, 2, 1, 1])

    def test_three_judges_each_alone_on_another_question(self):
        self.assertEqual(counts(3, [1, 2, 4], [1, 2, 4]), [3, 1, 1, 1])
        self.assertEqual(counts(3, [6, 5, 3], [6, 5, 3]), [3, 2, 2, 2])


class AnyOrder(unittest.TestCase):
    def test_rules_rising_falling_and_mixed(self):
        for rules in ([0, 1, 2, 7], [7, 2, 1, 0], [2, 7, 0, 1]):
            self.assertEqual(counts(3, rules, [1, 2, 7]), [3, 2, 2, 1])
        self.assertEqual(counts(5, list(range(31, -1, -1)), [3, 13, 22]), [5, 2, 2, 2, 1, 1])

    def test_judges_in_any_order(self):
        for judges in ([1, 2, 7], [7, 2, 1], [2, 7, 1]):
            self.assertEqual(counts(3, [0, 1, 2, 7], judges), [3, 2, 2, 1])


if __name__ == "__main__":
    unittest.main()
