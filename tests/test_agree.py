"""agree at ordinary inputs and at the document's corners; the answers are worked out by hand."""

import unittest

from majorityrows.panel import agree


class OrdinaryPanels(unittest.TestCase):
    def test_one_question(self):
        # The majorities' row is 1, then 0.
        self.assertEqual(agree(1, [0, 1], [1, 0, 1]), [2, 0, 2])
        self.assertEqual(agree(1, [0, 1], [1, 0, 0]), [2, 1, 2])

    def test_two_questions(self):
        # Question 0: yes of 3, 1. Question 1: yes of 3 alone. So 1.
        self.assertEqual(agree(2, [0, 1, 3], [3, 1, 0]), [1, 1])
        # Question 0: yes of 1, 3. Question 1: yes of 2, 3. So 3.
        self.assertEqual(agree(2, [1, 2, 3], [1, 2, 3]), [1, 2])

    def test_three_questions(self):
        # 001, 010, 111: the majorities' row is 011, which nobody says.
        self.assertEqual(agree(3, [0, 1, 2, 7], [1, 2, 7]), [0])
        # 001, 011, 111: it is 011, which judge 1 says.
        self.assertEqual(agree(3, [1, 3, 7], [1, 3, 7]), [1, 1])

    def test_four_questions(self):
        # 1001, 1010, 1100, 0111, 1000: it is 1000.
        self.assertEqual(agree(4, [9, 10, 12, 7, 8], [9, 10, 12, 7, 8]), [1, 4])
        # 1001, 1010, 1100, 0111: it is 1000 again, and nobody says it.
        self.assertEqual(agree(4, [9, 10, 12, 7], [9, 10, 12, 7]), [0])

    def test_five_questions(self):
        # 10101, 10010, 01101, 10111, 00100: it is 10101.
        self.assertEqual(agree(5, [21, 18, 13, 23, 4], [21, 18, 13, 23, 4]), [1, 0])
        # 10011, 11001, 11100: it is 11001.
        self.assertEqual(agree(5, [19, 25, 28], [19, 25, 28]), [1, 1])
        # 00011, 01101, 10110: it is 00111.
        self.assertEqual(agree(5, [3, 13, 22], [3, 13, 22]), [0])

    def test_several_say_it(self):
        # Yes-sayers 1 and 3 of five, so 2.
        self.assertEqual(agree(2, [0, 1, 2], [2, 2, 2, 1, 0]), [3, 0, 1, 2])
        self.assertEqual(agree(3, [4, 3], [3, 4, 4, 3, 3]), [3, 0, 3, 4])
        self.assertEqual(agree(3, [4, 3], [4, 3, 4, 3, 4]), [3, 0, 2, 4])

    def test_fewer_than_half_say_it(self):
        # 011, 101, 110, 111, 111: four say yes to each question, two say just 111.
        self.assertEqual(agree(3, [3, 5, 6, 7], [3, 5, 7, 6, 7]), [2, 2, 4])

    def test_nobody_says_it(self):
        # The row may stand, but that is not asked here.
        self.assertEqual(agree(3, [0, 1, 2, 3, 7], [1, 2, 7]), [0])
        self.assertEqual(agree(2, [0, 1, 2, 3], [1, 2]), [0])
        # Nobody, with several judges who say the same: 0011, 0101, 0110 twice each.
        self.assertEqual(agree(4, [3, 5, 6], [3, 3, 5, 5, 6, 6]), [0])

    def test_all_say_it(self):
        self.assertEqual(agree(2, [2, 1], [1, 1, 1]), [3, 0, 1, 2])
        self.assertEqual(agree(5, [31, 0], [31] * 15), [15, 0, 1, 2, 3, 4, 5, 6, 7, 8, 9, 10, 11, 12, 13, 14])

    def test_judges_are_numbered_and_not_their_rows(self):
        # The rules' places and the rows differ from the judges' places.
        self.assertEqual(agree(5, [30, 20, 10], [10, 20, 30, 30, 30]), [3, 2, 3, 4])
        # 01010, 10100, 11110 with 11110 said last: it is 11110.
        self.assertEqual(agree(5, [30, 20, 10], [10, 20, 30]), [1, 2])

    def test_a_row_that_only_has_it_within_is_not_just_it(self):
        # 001, 011, 101: it is 001; the others say yes to question 0, too, and to more.
        self.assertEqual(agree(3, [1, 3, 5], [3, 1, 5]), [1, 1])
        # 111, 110, 101, 100, 010: yes-sayers 2, 3, 4, so 110; 111 has more, 100 and 010 less.
        self.assertEqual(agree(3, [6, 7, 5, 4, 2], [7, 6, 5, 4, 2]), [1, 1])


class Corners(unittest.TestCase):
    def test_one_judge_says_it(self):
        for m in range(1, 6):
            rows = list(range(2 ** m))
            for row in rows:
                self.assertEqual(agree(m, [row], [row]), [1, 0])
                self.assertEqual(agree(m, rows, [row]), [1, 0])

    def test_a_tie_of_two_is_no(self):
        self.assertEqual(agree(1, [0, 1], [0, 1]), [1, 0])
        self.assertEqual(agree(1, [0, 1], [1, 0]), [1, 1])
        self.assertEqual(agree(2, [1, 2], [1, 2]), [0])
        self.assertEqual(agree(3, [3, 6], [3, 6]), [0])
        self.assertEqual(agree(3, [2, 6], [6, 2]), [1, 1])
        self.assertEqual(agree(4, [15, 0], [15, 0]), [1, 1])
        self.assertEqual(agree(5, [21, 10], [21, 10]), [0])

    def test_two_who_agree_are_no_tie(self):
        self.assertEqual(agree(2, [1, 2], [2, 2]), [2, 0, 1])

    def test_a_tie_of_more_is_no(self):
        self.assertEqual(agree(1, [0, 1], [1, 1, 0, 0]), [2, 2, 3])
        self.assertEqual(agree(1, [0, 1], [1, 1, 1, 0]), [3, 0, 1, 2])
        self.assertEqual(agree(1, [0, 1], [1] * 7 + [0] * 7), [7, 7, 8, 9, 10, 11, 12, 13])
        self.assertEqual(agree(1, [0, 1], [1] * 8 + [0] * 6), [8, 0, 1, 2, 3, 4, 5, 6, 7])

    def test_fifteen_judges_just_over_and_just_under_half(self):
        self.assertEqual(agree(1, [0, 1], [0] * 7 + [1] * 8), [8, 7, 8, 9, 10, 11, 12, 13, 14])
        self.assertEqual(agree(1, [0, 1], [0] * 8 + [1] * 7), [8, 0, 1, 2, 3, 4, 5, 6, 7])
        self.assertEqual(agree(5, [31, 0], [0, 31] * 7 + [31]), [8, 1, 3, 5, 7, 9, 11, 13, 14])

    def test_rules_of_one_row(self):
        self.assertEqual(agree(1, [0], [0, 0]), [2, 0, 1])
        self.assertEqual(agree(1, [1], [1, 1]), [2, 0, 1])
        self.assertEqual(agree(3, [5], [5, 5, 5]), [3, 0, 1, 2])
        self.assertEqual(agree(5, [0], [0] * 15), [15] + list(range(15)))

    def test_all_rows_may_stand(self):
        self.assertEqual(agree(1, [0, 1], [0, 0, 1]), [2, 0, 1])
        self.assertEqual(agree(2, [0, 1, 2, 3], [3, 2, 1, 0]), [1, 3])
        self.assertEqual(agree(3, list(range(8)), [1, 2, 4]), [0])
        self.assertEqual(agree(4, list(range(16)), [7, 11, 13, 15]), [1, 3])
        # Of 1 to 15 eight say yes to each question.
        self.assertEqual(agree(4, list(range(16)), list(range(1, 16))), [1, 14])
        self.assertEqual(agree(5, list(range(32)), [3, 13, 22, 7, 7]), [2, 3, 4])

    def test_three_judges_each_alone_on_another_question(self):
        self.assertEqual(agree(3, [1, 2, 4], [1, 2, 4]), [0])
        self.assertEqual(agree(3, [6, 5, 3], [6, 5, 3]), [0])
        self.assertEqual(agree(5, [8, 4, 16], [16, 8, 4]), [0])
        # Beside them two who say just what the three say no to.
        self.assertEqual(agree(3, [0, 1, 2, 4], [0, 1, 2, 0, 4]), [2, 0, 3])

    def test_a_row_that_may_not_stand_though_each_two_answers_go_together(self):
        # Of 000 each two answers are in 001, 010 or 100.
        self.assertEqual(agree(3, [1, 2, 4, 7], [4, 1, 2]), [0])


class AnyOrder(unittest.TestCase):
    def test_rules_rising_falling_and_mixed(self):
        for rules in ([0, 1, 2, 7], [7, 2, 1, 0], [2, 7, 0, 1]):
            self.assertEqual(agree(3, rules, [1, 2, 7]), [0])
            self.assertEqual(agree(3, rules, [1, 0, 7, 1, 2]), [2, 0, 3])

    def test_who_it_is_goes_with_the_judges_order(self):
        for judges, who in (([0, 1, 3], 1), ([1, 0, 3], 0), ([3, 0, 1], 2), ([0, 3, 1], 2)):
            self.assertEqual(agree(2, [0, 1, 3], judges), [1, who])


if __name__ == "__main__":
    unittest.main()
