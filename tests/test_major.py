"""major at ordinary inputs and at the document's corners; the answers are worked out by hand."""

import unittest

from majorityrows.panel import major

EVERY_ROW_OF_FIVE = list(range(32))


class OrdinaryPanels(unittest.TestCase):
    def test_one_question(self):
        self.assertEqual(major(1, [0, 1], [1, 0, 1]), [1, 1])
        self.assertEqual(major(1, [0, 1], [1, 0, 0]), [0, 1])

    def test_two_questions(self):
        # Question 0: yes of 3, 1. Question 1: yes of 3 alone.
        self.assertEqual(major(2, [0, 1, 3], [3, 1, 0]), [1, 1])
        # Question 0: yes of 1, 3. Question 1: yes of 2, 3.
        self.assertEqual(major(2, [1, 2, 3], [1, 2, 3]), [3, 1])

    def test_three_questions(self):
        # 1 is 001, 2 is 010, 7 is 111: yes to questions 0 and 1, which is 3.
        self.assertEqual(major(3, [0, 1, 2, 7], [1, 2, 7]), [3, 0])
        self.assertEqual(major(3, [0, 1, 2, 3, 7], [1, 2, 7]), [3, 1])

    def test_four_questions(self):
        # 1001, 1010, 1100, 0111, 1000: question 3 has four, the others two each of five.
        self.assertEqual(major(4, [9, 10, 12, 7, 8], [9, 10, 12, 7, 8]), [8, 1])
        # 1001, 1010, 1100, 0111: question 3 has three, the others two each of four.
        self.assertEqual(major(4, [9, 10, 12, 7], [9, 10, 12, 7]), [8, 0])

    def test_five_questions(self):
        # 10101, 10010, 01101, 10111, 00100: yes-sayers 3, 2, 4, 1, 3 to questions 0 to 4.
        judges = [21, 18, 13, 23, 4]
        self.assertEqual(major(5, [21, 18, 13, 23, 4], judges), [21, 1])
        # 10011, 11001, 11100: yes-sayers 2, 1, 1, 2, 3, so 11001.
        self.assertEqual(major(5, [19, 25, 28], [19, 25, 28]), [25, 1])
        # 00011, 01101, 10110: yes-sayers 2, 2, 2, 1, 1, so 00111.
        self.assertEqual(major(5, [3, 13, 22], [3, 13, 22]), [7, 0])

    def test_judges_who_say_the_same_count_each(self):
        self.assertEqual(major(2, [0, 1, 2], [2, 2, 2, 1, 0]), [2, 1])
        self.assertEqual(major(3, [4, 3], [3, 4, 4, 3, 3]), [3, 1])

    def test_rows_nobody_says_do_not_count(self):
        self.assertEqual(major(2, [0, 1, 2, 3], [0]), [0, 1])
        self.assertEqual(major(3, [7, 6, 5, 0], [0, 0, 5]), [0, 1])


class Corners(unittest.TestCase):
    def test_one_judge_is_the_majority(self):
        for m in range(1, 6):
            rows = list(range(2 ** m))
            for row in rows:
                self.assertEqual(major(m, [row], [row]), [row, 1])
                self.assertEqual(major(m, rows, [row]), [row, 1])

    def test_a_tie_of_two_is_no(self):
        self.assertEqual(major(1, [0, 1], [0, 1]), [0, 1])
        self.assertEqual(major(1, [0, 1], [1, 0]), [0, 1])
        self.assertEqual(major(2, [1, 2], [1, 2]), [0, 0])
        self.assertEqual(major(3, [3, 6], [3, 6]), [2, 0])
        self.assertEqual(major(4, [15, 0], [15, 0]), [0, 1])
        self.assertEqual(major(5, [21, 10], [21, 10]), [0, 0])

    def test_two_who_agree_are_no_tie(self):
        self.assertEqual(major(2, [1, 2], [2, 2]), [2, 1])

    def test_a_tie_of_more_is_no(self):
        self.assertEqual(major(1, [0, 1], [1, 1, 0, 0]), [0, 1])
        self.assertEqual(major(1, [0, 1], [1, 1, 1, 0]), [1, 1])
        self.assertEqual(major(1, [0, 1], [1] * 7 + [0] * 7), [0, 1])
        self.assertEqual(major(1, [0, 1], [1] * 8 + [0] * 6), [1, 1])

    def test_fifteen_judges_just_over_and_just_under_half(self):
        self.assertEqual(major(1, [0, 1], [1] * 8 + [0] * 7), [1, 1])
        self.assertEqual(major(1, [0, 1], [1] * 7 + [0] * 8), [0, 1])
        self.assertEqual(major(5, [31, 0], [31] * 8 + [0] * 7), [31, 1])

    def test_rules_of_one_row(self):
        self.assertEqual(major(1, [0], [0, 0]), [0, 1])
        self.assertEqual(major(3, [5], [5, 5, 5]), [5, 1])
        self.assertEqual(major(5, [31], [31] * 15), [31, 1])
        self.assertEqual(major(5, [0], [0] * 15), [0, 1])

    def test_all_rows_may_stand(self):
        self.assertEqual(major(1, [0, 1], [0, 0, 1]), [0, 1])
        self.assertEqual(major(2, [0, 1, 2, 3], [1, 2]), [0, 1])
        self.assertEqual(major(3, list(range(8)), [1, 2, 4]), [0, 1])
        self.assertEqual(major(4, list(range(16)), [7, 11, 13]), [15, 1])
        self.assertEqual(major(5, EVERY_ROW_OF_FIVE, [3, 13, 22]), [7, 1])

    def test_three_judges_each_alone_on_another_question(self):
        self.assertEqual(major(3, [1, 2, 4], [1, 2, 4]), [0, 0])
        self.assertEqual(major(3, [6, 5, 3], [6, 5, 3]), [7, 0])
        self.assertEqual(major(5, [8, 4, 16], [16, 8, 4]), [0, 0])

    def test_a_row_that_may_not_stand_though_each_two_answers_go_together(self):
        # Of 000 each two answers are in 001, 010 or 100.
        self.assertEqual(major(3, [1, 2, 4, 7], [4, 1, 2]), [0, 0])

    def test_an_even_number_may_miss_rules_that_an_odd_number_keeps(self):
        # Just one of two questions is yes: closed, yet a tie on both says no to both.
        self.assertEqual(major(2, [1, 2], [1, 2, 1]), [1, 1])
        self.assertEqual(major(2, [1, 2], [1, 2, 1, 2]), [0, 0])


class AnyOrder(unittest.TestCase):
    def test_rules_rising_falling_and_mixed(self):
        for rules in ([0, 1, 2, 7], [7, 2, 1, 0], [2, 7, 0, 1]):
            self.assertEqual(major(3, rules, [1, 2, 7]), [3, 0])
            self.assertEqual(major(3, rules, [1, 0, 7]), [1, 1])
        self.assertEqual(major(5, EVERY_ROW_OF_FIVE[::-1], [3, 13, 22]), [7, 1])

    def test_judges_in_any_order(self):
        for judges in ([1, 2, 7], [7, 2, 1], [2, 7, 1]):
            self.assertEqual(major(3, [0, 1, 2, 7], judges), [3, 0])

    def test_the_row_may_stand_wherever_it_lies_in_the_rules(self):
        for rules in ([3, 1, 2, 7], [1, 2, 3, 7], [1, 2, 7, 3]):
            self.assertEqual(major(3, rules, [1, 2, 7]), [3, 1])


if __name__ == "__main__":
    unittest.main()
