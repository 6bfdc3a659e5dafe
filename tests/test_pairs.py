"""pairs at ordinary inputs, at its corners and where it refuses r; the answers are worked out by hand."""

import itertools
import unittest

from majorityrows.panel import pairs
from words import orders


class RulesCase(unittest.TestCase):
    def there(self, m, rules, rows):
        for ok in orders(rules):
            for r in range(2 ** m):
                with self.subTest(m=m, r=r, ok=ok):
                    self.assertEqual(pairs(m, r, ok), [1 if r in rows else 0])


class OrdinaryRules(RulesCase):
    def test_one_question(self):
        # There is but one answer, and no two.
        self.there(1, [0], [0])
        self.there(1, [1], [1])
        self.there(1, [0, 1], [0, 1])

    def test_two_questions(self):
        # The two answers are the whole row.
        for many in (1, 2, 3, 4):
            for rules in itertools.combinations(range(4), many):
                self.there(2, list(rules), rules)

    def test_three_questions(self):
        # 011: yes and yes in 111, question 0 yes and 2 no in 001, question 1 yes and 2 no in 010.
        # 100 has question 2 yes and 0 no, 101 question 2 yes and 1 no, 110 question 2 yes and 0 no: nobody's.
        self.there(3, [0, 1, 2, 7], [0, 1, 2, 3, 7])
        # 001, 011, 111: of 101 yes to 2 and no to 1 is nobody's, and no to 0 is nobody's at all.
        self.there(3, [1, 3, 7], [1, 3, 7])
        # Each two answers are there, even of 000 and 111.
        self.there(3, [0, 3, 5, 6], range(8))
        self.there(3, [1, 2, 4, 7], range(8))

    def test_four_questions(self):
        # 0110, 1100, 0101; of 0100 no to 0 and 1 is in 1100, no to 0 and 3 in 0110, no to 1 and 3 in 0101.
        self.there(4, [5, 6, 12], [4, 5, 6, 12])
        # Questions 0 and 1 are answered alike, and questions 2 and 3.
        self.there(4, [0, 3, 12, 15], [0, 3, 12, 15])
        # 0111 as each two of questions 0 to 2 have yes, and each of them alone has no beside it to question 3.
        self.there(4, [0, 1, 2, 4, 15], [0, 1, 2, 3, 4, 5, 6, 7, 15])

    def test_five_questions(self):
        # 00011, 01101, 10110; of 00111 yes to 0 and 1 is in 00011, to 0 and 2 in 01101, to 1 and 2 in 10110,
        # no to 3 and 4 in 00011, 0 yes and 3 no in 00011, 0 yes and 4 no in 00011, 1 yes likewise,
        # 2 yes and 3 no in 10110, 2 yes and 4 no in 01101.
        self.there(5, [3, 13, 22], [3, 7, 13, 22])
        # Single yeses and all: no answer rules another out.
        self.there(5, [1, 2, 4, 8, 16, 31], range(32))

    def test_each_answer_by_itself_is_not_enough(self):
        # Yes and no to each question are there, but never yes to one with no to another.
        for m in range(2, 6):
            self.there(m, [0, 2 ** m - 1], [0, 2 ** m - 1])

    def test_no_counts_as_well_as_yes(self):
        # No two yeses of 000 or 001 go wrong, but their noes do.
        self.assertEqual(pairs(3, 0, [7]), [0])
        self.assertEqual(pairs(3, 1, [7]), [0])
        self.assertEqual(pairs(2, 1, [3]), [0])
        # And no two noes of 111 or 110 go wrong.
        self.assertEqual(pairs(3, 7, [0]), [0])
        self.assertEqual(pairs(3, 6, [0]), [0])
        # Of 01 yes to 0 is in 11 and no to 1 in 00, but in none both.
        self.assertEqual(pairs(2, 1, [0, 3]), [0])

    def test_each_two_questions_matter(self):
        for m in (3, 4, 5):
            for r in range(2 ** m):
                # Of each two questions one row that has just these two answers of r.
                rules = [r ^ (2 ** m - 1 - 2 ** q - 2 ** p) for q, p in itertools.combinations(range(m), 2)]
                self.assertEqual(pairs(m, r, rules), [1])
                for missing in rules:
                    self.assertEqual(pairs(m, r, [row for row in rules if row != missing]), [0])

    def test_one_row_must_have_both(self):
        # Of 000: no to 0 and 1 is in 100, no to 0 and 2 in 010; no to 1 in 100 and to 2 in 010, but in none both.
        self.assertEqual(pairs(3, 0, [2, 4]), [0])
        self.assertEqual(pairs(3, 0, [2, 4, 7]), [0])
        self.assertEqual(pairs(3, 0, [2, 4, 1]), [1])


class Corners(RulesCase):
    def test_rules_of_one_row(self):
        for m in range(1, 6):
            for row in range(2 ** m):
                self.there(m, [row], [row])

    def test_rules_of_two_rows(self):
        for m in range(1, 5):
            for two in itertools.combinations(range(2 ** m), 2):
                self.there(m, list(two), two)

    def test_all_rows(self):
        for m in range(1, 6):
            self.there(m, list(range(2 ** m)), range(2 ** m))

    def test_all_rows_but_one(self):
        for m in (3, 4, 5):
            for missing in range(2 ** m):
                rules = [row for row in range(2 ** m) if row != missing]
                self.assertEqual(pairs(m, missing, rules), [1])

    def test_a_row_that_may_not_stand_though_each_two_answers_go_together(self):
        # 000 out of 001, 010, 100, and 111 out of 011, 101, 110.
        self.there(3, [1, 2, 4], [0, 1, 2, 4])
        self.there(3, [3, 5, 6], [3, 5, 6, 7])
        self.there(4, [1, 2, 4, 8], [0, 1, 2, 4, 8])
        self.there(5, [4, 8, 16], [0, 4, 8, 16])
        self.there(5, [15, 23, 27], [15, 23, 27, 31])

    def test_a_row_that_may_stand_is_there(self):
        for m in range(1, 6):
            for row in range(2 ** m):
                self.assertEqual(pairs(m, row, [row]), [1])
                self.assertEqual(pairs(m, row, [2 ** m - 1 - row, row]), [1])

    def test_the_highest_row(self):
        for m in range(1, 6):
            highest = 2 ** m - 1
            self.assertEqual(pairs(m, highest, [0]), [0])
            self.assertEqual(pairs(m, highest, [highest]), [1])
            self.assertEqual(pairs(m, highest, [0, highest]), [1])


class Refusals(unittest.TestCase):
    def refused(self, m, r, ok):
        with self.subTest(m=m, r=r, ok=ok):
            self.assertEqual(pairs(m, r, ok), [-22])

    def test_a_row_too_large(self):
        for m in range(1, 6):
            above = 2 ** m
            for r in (above, above + 1, 32, 63, 255, 256, 2 ** 31, 4294967295):
                self.refused(m, r, [0])
                self.refused(m, r, list(range(above)))

    def test_the_same_row_with_another_number_of_questions(self):
        self.assertEqual(pairs(3, 4, [0, 1]), [0])
        self.refused(2, 4, [0, 1])
        self.assertEqual(pairs(5, 16, [0, 1]), [0])
        self.refused(4, 16, [0, 1])

    def test_the_row_needs_rules_that_are_allowed(self):
        # r would be there in pairs by what is allowed of the rules.
        self.refused(2, 1, [])
        self.refused(2, 1, [1, 1])
        self.refused(2, 1, [1, 4])
        self.refused(0, 0, [0])
        self.refused(6, 1, [1])

    def test_several_causes_at_once(self):
        self.refused(0, 1, [])
        self.refused(0, 1, [0])
        self.refused(6, 64, [0])
        self.refused(6, 64, [64, 64])
        self.refused(6, 0, [])
        self.refused(2, 4, [])
        self.refused(2, 4, [4])
        self.refused(2, 4, [1, 1])
        self.refused(2, 4294967295, [4, 4])
        self.refused(4294967295, 4294967295, [255] * 40)

    def test_numbers_outside_their_range(self):
        for r in (-1, -2, -2 ** 31, 4294967296):
            self.refused(2, r, [0, 1, 2, 3])

    def test_true_and_false_are_no_numbers(self):
        for r in (True, False):
            self.refused(1, r, [0, 1])

    def test_other_kinds(self):
        for r in ("1", None, 1.0, [1], (1,), {}):
            self.refused(2, r, [0, 1, 2, 3])


if __name__ == "__main__":
    unittest.main()
