"""hull at ordinary inputs, at the document's corners and in every order of ok; the answers are worked out by hand."""

import unittest

from majorityrows.panel import hull
from words import orders


class RulesCase(unittest.TestCase):
    def answered(self, m, rules, rows):
        for ok in orders(rules):
            with self.subTest(m=m, ok=ok):
                self.assertEqual(hull(m, ok), [len(rows)] + rows)


class RulesThatAreClosed(RulesCase):
    """Closed rules are their own hull."""

    def test_one_question(self):
        self.answered(1, [0], [0])
        self.answered(1, [1], [1])
        self.answered(1, [0, 1], [0, 1])

    def test_two_questions(self):
        for rules in ([0, 1, 2], [0, 1, 3], [0, 2, 3], [1, 2, 3], [0, 1, 2, 3]):
            self.answered(2, rules, rules)

    def test_three_questions(self):
        self.answered(3, [1, 3, 7], [1, 3, 7])
        self.answered(3, [0, 1, 2, 4], [0, 1, 2, 4])
        self.answered(3, [0, 2, 4, 5, 6, 7], [0, 2, 4, 5, 6, 7])

    def test_four_questions(self):
        self.answered(4, [0, 3, 12, 15], [0, 3, 12, 15])
        self.answered(4, [0, 4, 6, 14, 15], [0, 4, 6, 14, 15])

    def test_five_questions(self):
        self.answered(5, [15, 23, 27, 29, 30, 31], [15, 23, 27, 29, 30, 31])
        self.answered(5, [19, 25, 28], [19, 25, 28])


class RulesThatAreNotClosed(RulesCase):
    def test_one_row_more(self):
        # 001, 010, 111 call for 011.
        self.answered(3, [1, 2, 7], [1, 2, 3, 7])
        self.answered(3, [0, 1, 2, 7], [0, 1, 2, 3, 7])
        # 0110, 1100, 0101 call for 0100.
        self.answered(4, [5, 6, 12], [4, 5, 6, 12])
        # 00011, 01101, 10110 call for 00111.
        self.answered(5, [3, 13, 22], [3, 7, 13, 22])

    def test_the_row_comes_in_its_place(self):
        # Ahead of the rules, between them and behind them.
        self.answered(4, [9, 10, 12], [8, 9, 10, 12])
        self.answered(3, [0, 3, 5], [0, 1, 3, 5])
        self.answered(3, [3, 5, 6], [3, 5, 6, 7])

    def test_several_rows_more(self):
        # 000 calls with two of the others for 001, 010, 100, and the others without it for 111.
        self.answered(3, [0, 3, 5, 6], [0, 1, 2, 3, 4, 5, 6, 7])
        # 001, 010, 100 call for 000, and two of them with 111 for 011, 101, 110.
        self.answered(3, [1, 2, 4, 7], [0, 1, 2, 3, 4, 5, 6, 7])
        # The same in questions 2 to 4, with no to the others.
        self.answered(5, [4, 8, 16, 28], [0, 4, 8, 12, 16, 20, 24, 28])

    def test_not_more_than_is_called_for(self):
        # 0001, 0010, 1111 call for 0011, which adds nothing beyond.
        self.answered(4, [1, 2, 15], [1, 2, 3, 15])
        # 00000, 01100, 10100 call for 00100.
        self.answered(5, [0, 12, 20], [0, 4, 12, 20])

    def test_rows_rise_as_numbers(self):
        # 0010, 1001, 1100 call for 1000.
        self.answered(4, [2, 9, 12], [2, 8, 9, 12])

    def test_all_rows_but_one(self):
        for missing in range(32):
            rules = [row for row in range(32) if row != missing]
            self.answered(5, rules, list(range(32)))
        for missing in range(8):
            rules = [row for row in range(8) if row != missing]
            self.answered(3, rules, list(range(8)))


class RowsOfRowsThatWereNotAmongTheRules(RulesCase):
    def test_one_of_the_three_is_new(self):
        # 0001, 0010, 1111 call for 0011; 0001, 0100, 1111 for 0101; 0010, 0100, 1111 for 0110;
        # and 0011, 0100, 1111 for 0111, for which no three of the rules call.
        self.answered(4, [0, 1, 2, 4, 15], [0, 1, 2, 3, 4, 5, 6, 7, 15])

    def test_two_of_the_three_are_new(self):
        # 0000, 0011, 0101 call for 0001; 0000, 0011, 1110 for 0010; 0000, 0101, 1110 for 0100;
        # 0011, 0101, 1110 for 0111; and 0010, 0100, 1110 for 0110, for which no three of the rules call.
        self.answered(4, [0, 3, 5, 14], [0, 1, 2, 3, 4, 5, 6, 7, 14])

    def test_five_questions(self):
        # As with 0001, 0010, 0100, 1111; question 4 is answered as question 3.
        self.answered(5, [0, 1, 2, 4, 31], [0, 1, 2, 3, 4, 5, 6, 7, 31])

    def test_until_all_rows_are_there(self):
        # Two single yeses and all call for the two; such a row, another single yes and all for three, and so on.
        self.answered(5, [1, 2, 4, 8, 16, 31], list(range(32)))
        # The same with yes and no the other way round.
        self.answered(5, [0, 15, 23, 27, 29, 30], list(range(32)))


class Corners(RulesCase):
    def test_rules_of_one_row(self):
        for m in range(1, 6):
            for row in range(2 ** m):
                self.answered(m, [row], [row])

    def test_rules_of_two_rows(self):
        for m in range(1, 6):
            for row in range(2 ** m):
                for lesser in range(row):
                    self.answered(m, [lesser, row], [lesser, row])

    def test_all_rows(self):
        for m in range(1, 6):
            self.answered(m, list(range(2 ** m)), list(range(2 ** m)))

    def test_three_rows_each_alone_on_another_question(self):
        self.answered(3, [1, 2, 4], [0, 1, 2, 4])
        self.answered(3, [3, 5, 6], [3, 5, 6, 7])
        self.answered(5, [4, 8, 16], [0, 4, 8, 16])
        self.answered(5, [15, 23, 27], [15, 23, 27, 31])

    def test_a_row_that_may_not_stand_though_each_two_answers_go_together(self):
        # Of 000 each two answers are in 001, 010 or 100: it comes in.
        self.answered(3, [1, 2, 4], [0, 1, 2, 4])
        # Of 0000 each two are in 0001, 0010, 0100, 1000.
        self.answered(4, [1, 2, 4, 8], [0, 1, 2, 4, 8])
        self.answered(5, [1, 2, 4, 8, 16], [0, 1, 2, 4, 8, 16])

    def test_more_questions_change_nothing_while_all_say_no_to_them(self):
        for m in range(3, 6):
            self.answered(m, [0, 1, 2, 7], [0, 1, 2, 3, 7])
            self.answered(m, [0, 1, 2, 4], [0, 1, 2, 4])


if __name__ == "__main__":
    unittest.main()
