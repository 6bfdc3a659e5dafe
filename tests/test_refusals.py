"""Point 1 as far as it speaks of m, ok and v: each cause of -22 by itself and at its edge."""

import unittest

from majorityrows.panel import agree, counts, major

CALLS = (major, counts, agree)


class PanelCase(unittest.TestCase):
    def refused(self, m, ok, v):
        for call in CALLS:
            with self.subTest(call=call.__name__, m=m, ok=ok, v=v):
                self.assertEqual(call(m, ok, v), [-22])

    def allowed(self, m, ok, v):
        for call in CALLS:
            with self.subTest(call=call.__name__, m=m, ok=ok, v=v):
                self.assertGreaterEqual(min(call(m, ok, v)), 0)
        self.assertEqual(len(major(m, ok, v)), 2)
        self.assertEqual(len(counts(m, ok, v)), m + 1)
        who = agree(m, ok, v)
        self.assertEqual(len(who), who[0] + 1)


class Refusals(PanelCase):
    def test_how_many_questions(self):
        # Row 0 is a row of any number of questions, so m is the one cause here.
        for m in (0, 6, 7, 8, 255, 256, 4294967295):
            self.refused(m, [0], [0])
        for m in (1, 2, 3, 4, 5):
            self.allowed(m, [0], [0])

    def test_no_rules(self):
        # Without rules no judge can say a row of them: v always gives a cause, too.
        for m in range(1, 6):
            self.refused(m, [], [0])
            self.refused(m, [], [])

    def test_a_row_twice_in_the_rules(self):
        self.refused(1, [0, 0], [0])
        self.refused(1, [1, 1], [1])
        self.refused(3, [1, 2, 1], [1])
        self.refused(3, [1, 2, 1], [2])
        self.refused(3, [7, 0, 5, 5], [7])
        self.refused(5, list(range(32)) + [31], [0])
        self.refused(5, [4, 4, 4], [4, 4, 4])
        self.allowed(3, [1, 2], [1])

    def test_a_row_of_the_rules_too_large(self):
        for m in range(1, 6):
            just_above = 2 ** m
            for row in (just_above, just_above + 1, 255):
                self.refused(m, [0, row], [0])
                self.refused(m, [row, 0], [0])
                self.refused(m, [row], [row])
            self.allowed(m, [0, just_above - 1], [0])
            self.allowed(m, [just_above - 1], [just_above - 1])

    def test_no_judges(self):
        for m in range(1, 6):
            self.refused(m, [0], [])
            self.refused(m, list(range(2 ** m)), [])

    def test_how_many_judges(self):
        for many in (1, 2, 14, 15):
            self.allowed(1, [0, 1], [1] * many)
            self.allowed(5, list(range(32)), list(range(many)))
        for many in (16, 17, 31, 32, 39, 40):
            self.refused(1, [0, 1], [1] * many)
            self.refused(5, list(range(32)), [k % 32 for k in range(many)])

    def test_fifteen_judges_are_all_heard(self):
        self.assertEqual(major(1, [0, 1], [1] * 15), [1, 1])
        self.assertEqual(counts(1, [0, 1], [1] * 15), [1, 15])
        self.assertEqual(agree(1, [0, 1], [1] * 15), [15] + list(range(15)))

    def test_a_judge_says_what_may_not_stand(self):
        self.refused(1, [0], [1])
        self.refused(1, [1], [0])
        self.refused(3, [0, 1, 2], [3])
        self.refused(3, [0, 1, 2], [3, 0, 1])
        self.refused(3, [0, 1, 2], [0, 3, 1])
        self.refused(3, [0, 1, 2], [0, 1, 3])
        self.refused(3, [0, 1, 2], [1] * 14 + [7])
        self.refused(3, list(range(8)), [8])
        self.refused(3, list(range(8)), [255])
        self.refused(5, list(range(32)), [32])
        self.refused(5, [k for k in range(32) if k != 17], [17])

    def test_lists_of_forty(self):
        self.refused(5, list(range(40)), [0])
        self.refused(5, list(range(39, -1, -1)), [0])
        self.refused(5, [k % 32 for k in range(40)], [0])
        self.refused(5, [0] * 40, [0])
        self.refused(5, list(range(216, 256)), [216])
        self.refused(5, list(range(32)), [0] * 40)
        self.refused(5, [0] * 40, [0] * 40)
        self.refused(5, list(range(40)), list(range(40)))

    def test_the_longest_rules(self):
        for m in range(1, 6):
            self.allowed(m, list(range(2 ** m)), [0])
            self.refused(m, list(range(2 ** m + 1)), [0])

    def test_several_causes_at_once(self):
        self.refused(0, [], [])
        self.refused(6, [], [0])
        self.refused(6, [63, 63], [64])
        self.refused(4294967295, [255] * 40, [255] * 40)
        self.refused(4294967295, [], [])
        self.refused(2, [4, 4], [])
        self.refused(2, [1, 1], [2])
        self.refused(2, [1, 4], [3] * 16)
        self.refused(0, [0, 0], [1])

    def test_the_same_rows_with_another_number_of_questions(self):
        self.allowed(3, [4, 7], [4, 7])
        self.refused(2, [4, 7], [4, 7])
        self.allowed(5, [16, 1], [16])
        self.refused(4, [16, 1], [16])


class NotAsTold(PanelCase):
    """What the interface's words rule out altogether is refused with the same number."""

    def test_numbers_outside_their_range(self):
        self.refused(-1, [0], [0])
        self.refused(4294967296, [0], [0])
        self.refused(2, [-1], [-1])
        self.refused(2, [0, -1], [0])
        self.refused(2, [0, 256], [0])
        self.refused(2, [0], [-1])
        self.refused(2, [0], [256])

    def test_longer_lists(self):
        self.refused(5, list(range(41)), [0])
        self.refused(5, [0], [0] * 41)

    def test_true_and_false_are_no_numbers(self):
        self.refused(True, [0], [0])
        self.refused(1, [True], [1])
        self.refused(1, [False, 1], [1])
        self.refused(1, [0, 1], [True])
        self.refused(1, [0, 1], [0, False])

    def test_other_kinds(self):
        self.refused("3", [0], [0])
        self.refused(None, [0], [0])
        self.refused(1.0, [0], [0])
        self.refused(1, (0, 1), [0])
        self.refused(1, [0, 1], (0, 1))
        self.refused(1, None, [0])
        self.refused(1, [0], None)
        self.refused(1, ["0"], ["0"])
        self.refused(1, [0, None], [0])
        self.refused(1, [0], [0.0])


if __name__ == "__main__":
    unittest.main()
