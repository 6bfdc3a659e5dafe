"""closed at ordinary inputs, at the document's corners and in every order of ok; answers are worked out by hand."""

import unittest

from majorityrows.panel import closed
from words import orders


class RulesCase(unittest.TestCase):
    def answered(self, m, rules, given):
        for ok in orders(rules):
            with self.subTest(m=m, ok=ok):
                self.assertEqual(closed(m, ok), given)


class ClosedRules(RulesCase):
    def test_one_question(self):
        self.answered(1, [0], [1])
        self.answered(1, [1], [1])
        self.answered(1, [0, 1], [1])

    def test_two_questions(self):
        # Of three different rows of two questions the row is one of the three.
        for rules in ([0, 1, 2], [0, 1, 3], [0, 2, 3], [1, 2, 3], [0, 1, 2, 3]):
            self.answered(2, rules, [1])

    def test_three_questions(self):
        # 001, 011, 111: the one between is the row of three.
        self.answered(3, [1, 3, 7], [1])
        # 000 is the row of 001, 010 and 100, and of itself and two of them.
        self.answered(3, [0, 1, 2, 4], [1])
        # 111 is the row of 011, 101 and 110, and of itself and two of them.
        self.answered(3, [3, 5, 6, 7], [1])
        # Question 2 is yes if question 0 is.
        self.answered(3, [0, 2, 4, 5, 6, 7], [1])
        # 011 and 111 beside 000, 001, 010: 001, 010 and 111 call for 011.
        self.answered(3, [0, 1, 2, 3, 7], [1])

    def test_four_questions(self):
        # Questions 0 and 1 are answered alike, and questions 2 and 3.
        self.answered(4, [0, 3, 12, 15], [1])
        # One yes at most.
        self.answered(4, [0, 1, 2, 4, 8], [1])
        # Each row has the one ahead within it.
        self.answered(4, [0, 4, 6, 14, 15], [1])

    def test_five_questions(self):
        # One no at most.
        self.answered(5, [15, 23, 27, 29, 30, 31], [1])
        # Questions 1 to 4 are no.
        self.answered(5, [0, 1], [1])
        # Question 4 is yes, and one more at most.
        self.answered(5, [16, 17, 18, 20, 24], [1])


class RulesNotClosed(RulesCase):
    def test_three_questions(self):
        # 001, 010, 111: their row is 011.
        self.answered(3, [0, 1, 2, 7], [0, 1, 2, 7])
        self.answered(3, [1, 2, 7], [0, 1, 2, 7])
        # 000, 011, 101: their row is 001.
        self.answered(3, [0, 3, 5], [0, 0, 3, 5])
        # 011, 100, 101 have row 101, and 011, 100, 110 have 110, but 011, 101, 110 have 111.
        self.answered(3, [3, 4, 5, 6], [0, 3, 5, 6])

    def test_four_questions(self):
        # 0110, 1100, 0101: their row is 0100.
        self.answered(4, [5, 6, 12], [0, 5, 6, 12])
        # 1001, 1010, 1100: their row is 1000.
        self.answered(4, [9, 10, 12], [0, 9, 10, 12])

    def test_five_questions(self):
        # 00011, 01101, 10110: their row is 00111.
        self.answered(5, [3, 13, 22], [0, 3, 13, 22])
        # 10011, 11001, 11100: their row is 11001; 00000 with 10011 and 11001 has 10001.
        self.answered(5, [19, 25, 28], [1])
        self.answered(5, [0, 19, 25, 28], [0, 0, 19, 25])

    def test_all_rows_of_three_questions_but_one(self):
        # The row that is missing is the row of its three neighbours, and of no other three.
        self.answered(3, [1, 2, 3, 4, 5, 6, 7], [0, 1, 2, 4])
        self.answered(3, [0, 2, 3, 4, 5, 6, 7], [0, 0, 3, 5])
        self.answered(3, [0, 1, 3, 4, 5, 6, 7], [0, 0, 3, 6])
        self.answered(3, [0, 1, 2, 4, 5, 6, 7], [0, 1, 2, 7])
        self.answered(3, [0, 1, 2, 3, 5, 6, 7], [0, 0, 5, 6])
        self.answered(3, [0, 1, 2, 3, 4, 6, 7], [0, 1, 4, 7])
        self.answered(3, [0, 1, 2, 3, 4, 5, 7], [0, 2, 4, 7])
        self.answered(3, [0, 1, 2, 3, 4, 5, 6], [0, 3, 5, 6])

    def test_all_rows_of_five_questions_but_one(self):
        # 00000 is the row of three that share no yes.
        self.answered(5, list(range(1, 32)), [0, 1, 2, 4])
        # 11111 is the row of three that share no no: the least needs two yeses, which the others then share out.
        self.answered(5, list(range(31)), [0, 3, 29, 30])
        # 10000: 00000 has but question 4 against it, the others then share nothing below it.
        self.answered(5, [row for row in range(32) if row != 16], [0, 0, 17, 18])


class TheFirstThree(RulesCase):
    def test_each_three_has_a_row_outside(self):
        # 001, 010, 100 have 000; 001, 010, 111 have 011; 001, 100, 111 have 101; 010, 100, 111 have 110.
        self.answered(3, [1, 2, 4, 7], [0, 1, 2, 4])
        # 000, 011, 101 have 001; 000, 011, 110 have 010; 000, 101, 110 have 100; 011, 101, 110 have 111.
        self.answered(3, [0, 3, 5, 6], [0, 0, 3, 5])

    def test_the_first_row_decides(self):
        # 0001, 0110, 1111 have 0111, as have 0011, 0101, 0110: those are all lesser than 1111, but 1 is lesser than 3.
        self.answered(4, [0, 1, 2, 3, 4, 5, 6, 15], [0, 1, 6, 15])

    def test_the_second_row_decides(self):
        # 001, 100, 111 have 101, and 010, 100, 111 have 110; with 001 and 010 every row is one of them.
        self.answered(3, [0, 1, 2, 3, 4, 7], [0, 1, 4, 7])
        # 0001, 0010, 1100 have 0000, and 0001, 1010, 1100 have 1000.
        self.answered(4, [1, 2, 10, 12], [0, 1, 2, 12])

    def test_the_third_row_decides(self):
        # 00011 and 00101 call for 00111 with 00110, for 00001 with 01000 and with 11000.
        self.answered(5, [3, 5, 6, 8, 24], [0, 3, 5, 6])
        self.answered(5, [3, 5, 8, 24], [0, 3, 5, 8])

    def test_rows_rise_as_numbers(self):
        # 0010, 1001, 1100 have 1000, as have 1001, 1010, 1100.
        self.answered(4, [2, 9, 10, 12], [0, 2, 9, 12])

    def test_the_three_rise_in_whatever_order_they_come(self):
        self.assertEqual(closed(3, [4, 2, 1]), [0, 1, 2, 4])
        self.assertEqual(closed(3, [7, 4, 2, 1]), [0, 1, 2, 4])
        self.assertEqual(closed(5, list(range(31, 0, -1))), [0, 1, 2, 4])


class Corners(RulesCase):
    def test_rules_of_one_row(self):
        for m in range(1, 6):
            for row in range(2 ** m):
                self.answered(m, [row], [1])

    def test_rules_of_two_rows(self):
        for m in range(1, 6):
            for row in range(2 ** m):
                for lesser in range(row):
                    self.answered(m, [lesser, row], [1])

    def test_all_rows(self):
        for m in range(1, 6):
            self.answered(m, list(range(2 ** m)), [1])

    def test_three_rows_each_alone_on_another_question(self):
        self.answered(3, [1, 2, 4], [0, 1, 2, 4])
        self.answered(3, [3, 5, 6], [0, 3, 5, 6])
        self.answered(5, [4, 8, 16], [0, 4, 8, 16])
        self.answered(5, [15, 23, 27], [0, 15, 23, 27])
        # With what the others say they are closed.
        self.answered(5, [0, 4, 8, 16], [1])
        self.answered(5, [15, 23, 27, 31], [1])

    def test_a_row_that_may_not_stand_though_each_two_answers_go_together(self):
        # Of 000 each two answers are in 001, 010 or 100; without it the rules are not closed.
        self.answered(3, [1, 2, 4], [0, 1, 2, 4])
        # Of 0000 each two are in 0001, 0010, 0100, 1000.
        self.answered(4, [1, 2, 4, 8], [0, 1, 2, 4])

    def test_more_questions_change_nothing_while_all_say_no_to_them(self):
        for m in range(3, 6):
            self.answered(m, [0, 1, 2, 7], [0, 1, 2, 7])
            self.answered(m, [0, 1, 2, 4], [1])


if __name__ == "__main__":
    unittest.main()
