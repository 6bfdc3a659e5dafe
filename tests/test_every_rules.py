"""closed, hull and pairs over every set of rules of few questions, and many of more, against the document's words."""

import unittest

from majorityrows.panel import closed, hull, median, pairs
from words import (
    every_rules,
    is_closed,
    is_there_in_pairs,
    least_of,
    orders,
    row_of_three,
    strided_rules,
    threes_outside,
)


def many_rules():
    for m in (1, 2, 3):
        for rules in every_rules(m):
            yield m, rules
    for m in (4, 5):
        for rules in strided_rules(m):
            yield m, rules


def rules_with_their_hull(m, step):
    closed_sets = [set(rules) for rules in every_rules(m) if is_closed(rules)]
    for rules in list(every_rules(m))[::step]:
        yield rules, least_of([rows for rows in closed_sets if rows.issuperset(rules)])


class Closed(unittest.TestCase):
    def test_it_is_one_just_if_the_row_of_any_three_may_stand(self):
        for m, rules in many_rules():
            self.assertEqual(closed(m, rules) == [1], is_closed(rules), (m, rules))

    def test_it_tells_the_first_three_whose_row_may_not_stand(self):
        for m in (1, 2, 3, 4):
            for rules in every_rules(m):
                threes = threes_outside(rules)
                expected = [0] + list(min(threes)) if threes else [1]
                self.assertEqual(closed(m, rules), expected, (m, rules))

    def test_it_tells_the_first_three_with_five_questions(self):
        for rules in strided_rules(5):
            threes = threes_outside(rules)
            self.assertEqual(closed(5, rules), [0] + list(min(threes)) if threes else [1], rules)

    def test_the_three_are_of_the_rules_and_their_row_is_not(self):
        for m, rules in many_rules():
            given = closed(m, rules)
            if given != [1]:
                zero, x, y, z = given
                self.assertEqual(zero, 0)
                self.assertTrue(x < y < z)
                self.assertTrue({x, y, z} <= set(rules))
                self.assertNotIn(median(m, x, y, z)[0], rules)

    def test_the_order_of_the_rules_does_not_matter(self):
        for m, rules in many_rules():
            given = closed(m, rules)
            for ok in orders(rules):
                self.assertEqual(closed(m, ok), given, (m, ok))


class Hull(unittest.TestCase):
    def test_it_is_the_least_closed_set_that_has_the_rules(self):
        for m, step in ((1, 1), (2, 1), (3, 1), (4, 61)):
            for rules, least in rules_with_their_hull(m, step):
                self.assertEqual(hull(m, rules), [len(least)] + sorted(least), (m, rules))

    def test_it_has_the_rules_and_of_any_three_of_its_rows_theirs(self):
        for m, rules in many_rules():
            rows = hull(m, rules)[1:]
            self.assertTrue(set(rules) <= set(rows), (m, rules))
            self.assertTrue(is_closed(rows), (m, rules))

    def test_it_has_nothing_that_is_not_called_for(self):
        for m, rules in many_rules():
            called_for = set(rules)
            waiting = threes_outside(called_for)
            while waiting:
                called_for.update(row_of_three(*three) for three in waiting)
                waiting = threes_outside(called_for)
            self.assertEqual(set(hull(m, rules)[1:]), called_for, (m, rules))

    def test_its_rows_rise_and_are_as_many_as_told(self):
        for m, rules in many_rules():
            given = hull(m, rules)
            self.assertEqual(given[1:], sorted(set(given[1:])), (m, rules))
            self.assertEqual(given[0], len(given) - 1, (m, rules))
            self.assertLess(given[-1], 2 ** m)

    def test_the_order_of_the_rules_does_not_matter(self):
        for m, rules in many_rules():
            given = hull(m, rules)
            for ok in orders(rules):
                self.assertEqual(hull(m, ok), given, (m, ok))


class Pairs(unittest.TestCase):
    def test_it_is_one_just_if_each_two_answers_go_together(self):
        for m in (1, 2, 3):
            for rules in every_rules(m):
                for r in range(2 ** m):
                    self.assertEqual(pairs(m, r, rules), [int(is_there_in_pairs(m, r, rules))], (m, r, rules))

    def test_it_is_so_with_four_and_five_questions(self):
        for m in (4, 5):
            for rules in list(strided_rules(m))[::7]:
                for r in range(2 ** m):
                    self.assertEqual(pairs(m, r, rules), [int(is_there_in_pairs(m, r, rules))], (m, r, rules))

    def test_the_order_of_the_rules_does_not_matter(self):
        for m, rules in list(many_rules())[::5]:
            for r in range(2 ** m):
                given = pairs(m, r, rules)
                for ok in orders(rules):
                    self.assertEqual(pairs(m, r, ok), given, (m, r, ok))


class TheHullAndThePairs(unittest.TestCase):
    """The hull is just the rows that are there in pairs."""

    def hull_is_the_rows_there_in_pairs(self, m, rules):
        rows = [r for r in range(2 ** m) if pairs(m, r, rules) == [1]]
        self.assertEqual(hull(m, rules), [len(rows)] + rows, (m, rules))

    def test_few_questions(self):
        for m in (1, 2, 3):
            for rules in every_rules(m):
                self.hull_is_the_rows_there_in_pairs(m, rules)

    def test_four_questions(self):
        for rules in list(every_rules(4))[::11]:
            self.hull_is_the_rows_there_in_pairs(4, rules)

    def test_five_questions(self):
        for rules in strided_rules(5):
            self.hull_is_the_rows_there_in_pairs(5, rules)

    def test_rules_are_closed_just_if_no_other_row_is_there_in_pairs(self):
        for m, rules in many_rules():
            others = [r for r in range(2 ** m) if r not in rules and pairs(m, r, rules) == [1]]
            self.assertEqual(closed(m, rules) == [1], others == [], (m, rules))


class TheHullAndClosedRules(unittest.TestCase):
    def test_rules_are_closed_just_if_they_are_their_own_hull(self):
        for m, rules in many_rules():
            self.assertEqual(closed(m, rules) == [1], hull(m, rules)[1:] == sorted(rules), (m, rules))

    def test_the_hull_is_closed_and_its_own_hull(self):
        for m, rules in many_rules():
            rows = hull(m, rules)[1:]
            self.assertEqual(closed(m, rows), [1], (m, rules))
            self.assertEqual(hull(m, rows), [len(rows)] + rows, (m, rules))

    def test_the_row_of_the_three_that_closed_tells_is_in_the_hull(self):
        for m, rules in many_rules():
            given = closed(m, rules)
            if given != [1]:
                self.assertIn(median(m, *given[1:])[0], hull(m, rules)[1:], (m, rules))


if __name__ == "__main__":
    unittest.main()
