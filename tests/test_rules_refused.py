"""Point 1 for m and ok in the calls without judges: each cause of -22 by itself, at its edge and with others."""

import unittest

from majorityrows.panel import closed, hull, pairs


def pairs_of_row_0(m, ok):
    # Row 0 is a row of any number of questions, so it gives no cause itself.
    return pairs(m, 0, ok)


CALLS = (closed, hull, pairs_of_row_0)


class RulesCase(unittest.TestCase):
    def refused(self, m, ok):
        for call in CALLS:
            with self.subTest(call=call.__name__, m=m, ok=ok):
                self.assertEqual(call(m, ok), [-22])

    def allowed(self, m, ok):
        for call in CALLS:
            with self.subTest(call=call.__name__, m=m, ok=ok):
                self.assertGreaterEqual(min(call(m, ok)), 0)


class Refusals(RulesCase):
    def test_how_many_questions(self):
        # Row 0 is a row of any number of questions, so m is the one cause here.
        for m in (0, 6, 7, 8, 31, 32, 255, 256, 4294967295):
            self.refused(m, [0])
        for m in (1, 2, 3, 4, 5):
            self.allowed(m, [0])

    def test_no_rules(self):
        for m in range(1, 6):
            self.refused(m, [])

    def test_a_row_twice(self):
        self.refused(1, [0, 0])
        self.refused(1, [1, 1])
        self.refused(1, [0, 1, 0])
        self.refused(3, [1, 2, 1])
        self.refused(3, [1, 1, 2])
        self.refused(3, [2, 1, 1])
        self.refused(3, [7, 0, 5, 5])
        self.refused(5, [4, 4, 4])
        for row in range(32):
            self.refused(5, list(range(32)) + [row])
            self.refused(5, [row] + list(range(32)))

    def test_a_row_too_large(self):
        for m in range(1, 6):
            above = 2 ** m
            for row in (above, above + 1, 32, 33, 255):
                self.refused(m, [row])
                self.refused(m, [0, row])
                self.refused(m, [row, 0])
                self.refused(m, [0, row, 1])
                self.refused(m, list(range(above)) + [row])
            self.allowed(m, [above - 1])
            self.allowed(m, [0, above - 1])
            self.allowed(m, [above - 1, 0])

    def test_the_longest_rules(self):
        for m in range(1, 6):
            self.allowed(m, list(range(2 ** m)))
            self.allowed(m, list(range(2 ** m - 1, -1, -1)))
            self.refused(m, list(range(2 ** m + 1)))

    def test_lists_of_forty(self):
        self.refused(5, list(range(40)))
        self.refused(5, list(range(39, -1, -1)))
        self.refused(5, [k % 32 for k in range(40)])
        self.refused(5, [0] * 40)
        self.refused(5, list(range(216, 256)))

    def test_several_causes_at_once(self):
        self.refused(0, [])
        self.refused(6, [])
        self.refused(4294967295, [])
        self.refused(0, [1])
        self.refused(0, [0, 0])
        self.refused(0, [255])
        self.refused(6, [63, 63])
        self.refused(6, [64])
        self.refused(6, [64, 64])
        self.refused(2, [4, 4])
        self.refused(2, [1, 1, 4])
        self.refused(2, [4, 1, 1])
        self.refused(4294967295, [255] * 40)

    def test_the_same_rows_with_another_number_of_questions(self):
        self.allowed(3, [4, 7])
        self.refused(2, [4, 7])
        self.allowed(5, [16, 1])
        self.refused(4, [16, 1])


class NotAsTold(RulesCase):
    """What the interface's words rule out altogether is refused with the same number."""

    def test_numbers_outside_their_range(self):
        self.refused(-1, [0])
        self.refused(-5, [0])
        self.refused(4294967296, [0])
        self.refused(2, [-1])
        self.refused(2, [0, -1])
        self.refused(2, [0, 256])

    def test_longer_lists(self):
        self.refused(5, list(range(41)))
        self.refused(5, [0] * 41)

    def test_true_and_false_are_no_numbers(self):
        self.refused(True, [0])
        self.refused(False, [0])
        self.refused(1, [True])
        self.refused(1, [False])
        self.refused(1, [False, 1])
        self.refused(1, [0, True])

    def test_other_kinds(self):
        for other in ("3", None, 1.0, [1], (1,), {}):
            self.refused(other, [0])
            self.refused(1, [other])
            self.refused(1, [0, other])
        for other in ("0", None, 0, (0, 1), {0: True}, {0, 1}, range(2)):
            self.refused(1, other)


if __name__ == "__main__":
    unittest.main()
