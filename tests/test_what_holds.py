"""Point 3 over families of panels; what it says of the hull and of rows in pairs alone is in test_every_rules."""

import itertools
import unittest

from majorityrows.panel import agree, closed, counts, hull, major, median, pairs
from words import answer, every_rules, row_of_three, strided_rules


def panels(m, judges):
    return itertools.combinations_with_replacement(range(2 ** m), judges)


def strided_panels(m, judges):
    # Too many panels to go through all: rows picked by steps that reach every row of m questions.
    for start in range(2 ** m):
        for step in range(1, 2 ** m, 2):
            yield tuple((start + step * k * k + k) % 2 ** m for k in range(judges))


def odd_panels():
    for m, judges in ((1, 1), (1, 3), (1, 15), (2, 3), (2, 5), (2, 15), (3, 1), (3, 3), (3, 5), (3, 7),
                      (4, 3), (4, 5), (5, 1), (5, 3)):
        for v in panels(m, judges):
            yield m, list(v)
    for m, judges in ((4, 9), (4, 15), (5, 5), (5, 7), (5, 13), (5, 15)):
        for v in strided_panels(m, judges):
            yield m, list(v)


def odd_judges(rules):
    # Steps through the rules, so that each of them is said by some and the judges differ.
    for judges in (1, 3, 5, 7, 15):
        for step in range(1, len(rules) + 1):
            yield [rules[(step * k * k + k) % len(rules)] for k in range(judges)]


def even_panels():
    for m, judges in ((1, 2), (1, 14), (2, 2), (2, 4), (3, 2), (3, 4), (4, 2), (4, 4), (5, 2)):
        for v in panels(m, judges):
            yield m, list(v)
    for m, judges in ((4, 8), (5, 6), (5, 14)):
        for v in strided_panels(m, judges):
            yield m, list(v)


class MajoritiesRow(unittest.TestCase):
    def test_it_has_what_more_than_half_say(self):
        for m, v in itertools.chain(odd_panels(), even_panels()):
            yes = [sum(answer(row, q) for row in v) for q in range(m)]
            expected = sum(2 ** q for q in range(m) if yes[q] > len(v) - yes[q])
            rules = sorted(set(v))
            self.assertEqual(counts(m, rules, v), [m] + yes)
            self.assertEqual(major(m, rules, v), [expected, int(expected in rules)])
            who = [judge for judge, said in enumerate(v) if said == expected]
            self.assertEqual(agree(m, rules, v), [len(who)] + who)

    def test_the_rules_decide_only_whether_it_may_stand(self):
        for said in itertools.chain(panels(3, 3), panels(3, 4)):
            v = list(said)
            row = major(3, sorted(set(v)), v)[0]
            with_row = sorted(set(v) | {row})
            self.assertEqual(major(3, with_row, v), [row, 1])
            self.assertEqual(major(3, list(range(7, -1, -1)), v), [row, 1])
            without_row = sorted((set(range(8)) - {row}) | set(v))
            self.assertEqual(major(3, without_row, v), [row, int(row in v)])

    def test_the_rules_do_not_decide_who_says_it(self):
        for said in itertools.chain(panels(3, 3), panels(3, 4)):
            v = list(said)
            self.assertEqual(agree(3, sorted(set(v)), v), agree(3, list(range(7, -1, -1)), v))

    def test_it_may_stand_if_some_judge_says_it(self):
        for m, v in itertools.chain(odd_panels(), even_panels()):
            rules = sorted(set(v))
            # With just the judges' rows as rules it may stand only then.
            self.assertEqual(major(m, rules, v)[1] == 1, agree(m, rules, v)[0] > 0)


class RowOfThree(unittest.TestCase):
    def test_it_has_what_two_of_them_say(self):
        for m in range(1, 6):
            for x, y, z in itertools.product(range(2 ** m), repeat=3):
                self.assertEqual(median(m, x, y, z), [row_of_three(x, y, z)])

    def test_it_is_the_majorities_of_three_judges(self):
        for m in range(1, 6):
            rows = list(range(2 ** m))
            for x, y, z in itertools.combinations_with_replacement(rows, 3):
                self.assertEqual(major(m, rows, [z, x, y]), median(m, x, y, z) + [1])

    def test_the_judges_who_say_it(self):
        rows = list(range(16))
        for three in itertools.product(rows, repeat=3):
            row = median(4, *three)[0]
            self.assertEqual(agree(4, rows, list(three))[1:], [k for k in range(3) if three[k] == row])


class OddNumberOfJudges(unittest.TestCase):
    def test_some_judge_gives_any_two_of_its_answers_together(self):
        for m, v in odd_panels():
            row = major(m, sorted(set(v)), v)[0]
            for q, p in itertools.combinations_with_replacement(range(m), 2):
                self.assertTrue(
                    any(answer(said, q) == answer(row, q) and answer(said, p) == answer(row, p) for said in v),
                    (m, v, row, q, p))

    def test_it_is_there_in_pairs_by_what_the_judges_say(self):
        for m, v in odd_panels():
            rules = sorted(set(v))
            self.assertEqual(pairs(m, major(m, rules, v)[0], rules), [1], (m, v))

    def test_it_is_in_the_hull_of_the_rules(self):
        for m in (3, 4, 5):
            for rules in strided_rules(m):
                rows = hull(m, rules)[1:]
                for v in odd_judges(rules):
                    self.assertIn(major(m, rules, v)[0], rows, (m, rules, v))

    def test_a_question_answered_the_other_way_turns_in_the_majorities_row(self):
        for m, v in odd_panels():
            rules = sorted(set(v))
            row, stands = major(m, rules, v)
            for q in range(m):
                turned_rules = [said ^ 2 ** q for said in rules]
                turned = [said ^ 2 ** q for said in v]
                self.assertEqual(major(m, turned_rules, turned), [row ^ 2 ** q, stands])
                self.assertEqual(agree(m, turned_rules, turned), agree(m, rules, v))
                yes = counts(m, rules, v)
                yes[1 + q] = len(v) - yes[1 + q]
                self.assertEqual(counts(m, turned_rules, turned), yes)

    def test_it_may_always_stand_just_if_the_rules_are_closed(self):
        for m, numbers in ((1, (1, 3, 5)), (2, (1, 3, 5, 7)), (3, (1, 3, 5))):
            for rules in every_rules(m):
                stands = [
                    major(m, rules, list(v))[1] == 1
                    for judges in numbers
                    for v in itertools.combinations_with_replacement(rules, judges)
                ]
                self.assertEqual(all(stands), closed(m, rules) == [1], (m, rules))

    def test_it_may_stand_by_closed_rules_of_many_questions(self):
        for m in (4, 5):
            for rules in strided_rules(m):
                rows = hull(m, rules)[1:]
                self.assertEqual(closed(m, rows), [1])
                for v in odd_judges(rules):
                    self.assertEqual(major(m, rows, v)[1], 1, (m, rows, v))

    def test_it_may_not_stand_if_the_judges_are_the_three_that_closed_tells(self):
        for m in (3, 4, 5):
            for rules in strided_rules(m):
                given = closed(m, rules)
                if given != [1]:
                    self.assertEqual(major(m, rules, given[1:])[1], 0, (m, rules))
                    self.assertEqual(major(m, rules, given[1:] * 5)[1], 0, (m, rules))


class EvenNumberOfJudges(unittest.TestCase):
    def test_a_tie_is_no_either_way_round(self):
        self.assertEqual(major(1, [0, 1], [0, 1]), [0, 1])
        self.assertEqual(major(1, [1, 0], [1, 0]), [0, 1])
        self.assertEqual(major(2, [1, 2], [1, 2]), [0, 0])
        self.assertEqual(major(2, [0, 3], [0, 3]), [0, 1])

    def test_no_judge_need_give_two_of_its_answers_together(self):
        # One judge says yes and no, the other no and yes; the row says no and no.
        row = major(2, [1, 2], [1, 2])[0]
        self.assertEqual([answer(row, 0), answer(row, 1)], [0, 0])
        self.assertEqual(pairs(2, row, [1, 2]), [0])


if __name__ == "__main__":
    unittest.main()
