"""What the interface says besides the answers: kinds, nothing changed, nothing kept, nothing printed or read."""

import ast
import contextlib
import inspect
import io
import pathlib
import sys
import unittest

import majorityrows.panel
from majorityrows.panel import agree, closed, counts, hull, major, median, pairs

PARAMETERS = (
    (major, ["m", "ok", "v"]),
    (counts, ["m", "ok", "v"]),
    (agree, ["m", "ok", "v"]),
    (median, ["m", "x", "y", "z"]),
    (closed, ["m", "ok"]),
    (hull, ["m", "ok"]),
    (pairs, ["m", "r", "ok"]),
)
PANEL_CALLS = (major, counts, agree)
RULES_CALLS = (closed, hull)
PANELS = (
    (1, [0, 1], [1, 0, 1]),
    (3, [7, 2, 1, 0], [1, 2, 7]),
    (4, [15, 0], [15, 0]),
    (5, list(range(31, -1, -1)), list(range(15))),
    (1, [1], [1]),
    (0, [0], [0]),
    (6, [0], [0]),
    (3, [], [0]),
    (3, [2, 1, 2], [1]),
    (3, [8, 1], [1]),
    (3, [2, 1], []),
    (3, [2, 1], [0]),
    (3, [2, 1], [1] * 16),
    (5, list(range(40)), [7] * 40),
)
THREES = (
    (1, 0, 1, 1),
    (3, 1, 2, 7),
    (3, 4, 2, 1),
    (5, 31, 31, 31),
    (0, 0, 0, 0),
    (6, 0, 0, 0),
    (3, 8, 1, 1),
    (3, 1, 1, 4294967295),
)
RULES = (
    (1, [1]),
    (1, [1, 0]),
    (3, [7, 2, 1, 0]),
    (3, [4, 2, 1]),
    (4, [15, 0, 4, 2, 1]),
    (4, [14, 5, 3, 0]),
    (5, [31, 16, 8, 4, 2, 1]),
    (5, list(range(31, -1, -1))),
    (5, list(range(31, 0, -1))),
    (0, [0]),
    (6, [0]),
    (3, []),
    (3, [2, 1, 2]),
    (3, [8, 1]),
    (5, list(range(39, -1, -1))),
)
ROW_AND_RULES = (
    (1, 0, [1]),
    (1, 1, [1, 0]),
    (3, 0, [4, 2, 1]),
    (3, 3, [7, 2, 1, 0]),
    (3, 4, [7, 2, 1, 0]),
    (4, 6, [14, 5, 3, 0]),
    (5, 31, list(range(30, -1, -1))),
    (5, 17, [31, 0]),
    (0, 0, [0]),
    (6, 0, [0]),
    (3, 0, []),
    (3, 1, [2, 1, 2]),
    (3, 1, [8, 1]),
    (3, 8, [2, 1]),
    (3, 4294967295, [2, 1]),
    (5, 0, list(range(39, -1, -1))),
)
CASES = (
    tuple((call, panel) for call in PANEL_CALLS for panel in PANELS)
    + tuple((median, three) for three in THREES)
    + tuple((call, rules) for call in RULES_CALLS for rules in RULES)
    + tuple((pairs, row_and_rules) for row_and_rules in ROW_AND_RULES)
)
PACKAGE = pathlib.Path(majorityrows.panel.__file__).parent


def refuse_change(self, *args, **kwargs):
    raise AssertionError("what was handed in was changed")


class Untouchable(list):
    """A list that tells on whoever changes it, even if the change is undone later."""

    append = extend = insert = pop = remove = clear = sort = reverse = refuse_change
    __setitem__ = __delitem__ = __iadd__ = __imul__ = refuse_change


def copied(handed, kind=list):
    return tuple(kind(one) if isinstance(one, list) else one for one in handed)


class Kinds(unittest.TestCase):
    def test_parameters_are_called_as_told(self):
        for call, names in PARAMETERS:
            self.assertEqual(list(inspect.signature(call).parameters), names)

    def test_parameters_may_be_named(self):
        self.assertEqual(major(v=[1], ok=[1], m=1), [1, 1])
        self.assertEqual(counts(v=[1], ok=[1], m=1), [1, 1])
        self.assertEqual(agree(v=[1], ok=[1], m=1), [1, 0])
        self.assertEqual(median(z=7, y=2, x=1, m=3), [3])
        self.assertEqual(closed(ok=[4, 2, 1], m=3), [0, 1, 2, 4])
        self.assertEqual(hull(ok=[4, 2, 1], m=3), [4, 0, 1, 2, 4])
        self.assertEqual(pairs(ok=[4, 2, 1], r=0, m=3), [1])
        self.assertEqual(pairs(ok=[4, 2, 1], r=3, m=3), [0])

    def test_every_parameter_is_needed(self):
        for call, names in PARAMETERS:
            for parameter in inspect.signature(call).parameters.values():
                self.assertIs(parameter.default, inspect.Parameter.empty)

    def test_one_list_of_ints_is_given_back(self):
        for call, handed in CASES:
            given = call(*handed)
            self.assertIs(type(given), list)
            for number in given:
                self.assertIs(type(number), int)

    def test_how_many_numbers_are_given_back(self):
        for m in range(1, 6):
            self.assertEqual(len(major(m, [0, 1], [1, 0, 1])), 2)
            self.assertEqual(len(counts(m, [0, 1], [1, 0, 1])), m + 1)
            self.assertEqual(len(agree(m, [0, 1], [1, 0, 1])), 3)
            self.assertEqual(len(median(m, 1, 0, 1)), 1)
            self.assertEqual(len(closed(m, [0, 1])), 1)
            self.assertEqual(len(hull(m, [0, 1])), 3)
            self.assertEqual(len(pairs(m, 0, [0, 1])), 1)
            self.assertEqual(len(pairs(m, 0, [1])), 1)
        for m in range(3, 6):
            self.assertEqual(len(closed(m, [1, 2, 4])), 4)
            self.assertEqual(len(hull(m, [1, 2, 4])), 5)

    def test_only_a_refusal_is_below_zero(self):
        for call, handed in CASES:
            given = call(*handed)
            self.assertTrue(given == [-22] or min(given) >= 0)


class HandedIn(unittest.TestCase):
    def test_lists_are_afterwards_what_they_were(self):
        for call, handed in CASES:
            copies = copied(handed)
            call(*copies)
            self.assertEqual(copies, handed)

    def test_lists_are_not_changed_for_a_while_either(self):
        for call, handed in CASES:
            self.assertEqual(call(*copied(handed, Untouchable)), call(*handed))

    def test_the_same_list_may_be_both(self):
        rows = [1, 2, 7]
        self.assertEqual(major(3, rows, rows), [3, 0])
        self.assertEqual(counts(3, rows, rows), [3, 2, 2, 1])
        self.assertEqual(agree(3, rows, rows), [0])
        self.assertEqual(rows, [1, 2, 7])


class NothingKept(unittest.TestCase):
    def test_calls_in_any_order_answer_alike(self):
        first = [call(*handed) for call, handed in CASES]
        again = [call(*handed) for call, handed in CASES]
        backwards = [call(*handed) for call, handed in CASES[::-1]]
        self.assertEqual(again, first)
        self.assertEqual(backwards[::-1], first)

    def test_a_call_twice_in_a_row_answers_alike(self):
        for call, handed in CASES:
            self.assertEqual(call(*handed), call(*handed))

    def test_what_is_done_to_an_answer_does_not_reach_the_next(self):
        for call, handed in CASES:
            given = call(*handed)
            expected = list(given)
            given.append(99)
            given[0] = 99
            self.assertEqual(call(*handed), expected)

    def test_what_is_done_to_the_lists_afterwards_is_seen_by_the_next_call(self):
        ok, v = [0, 1, 2, 7], [1, 2, 7]
        self.assertEqual(major(3, ok, v), [3, 0])
        self.assertEqual(agree(3, ok, v), [0])
        ok.append(3)
        self.assertEqual(major(3, ok, v), [3, 1])
        v.append(7)
        self.assertEqual(counts(3, ok, v), [3, 3, 3, 2])
        v.append(3)
        self.assertEqual(agree(3, ok, v), [1, 4])

    def test_rules_that_grow_between_two_calls(self):
        ok = [2, 1]
        self.assertEqual(pairs(3, 0, ok), [0])
        self.assertEqual(closed(3, ok), [1])
        self.assertEqual(hull(3, ok), [2, 1, 2])
        ok.append(4)
        self.assertEqual(pairs(3, 0, ok), [1])
        self.assertEqual(closed(3, ok), [0, 1, 2, 4])
        self.assertEqual(hull(3, ok), [4, 0, 1, 2, 4])
        ok.append(0)
        self.assertEqual(closed(3, ok), [1])
        self.assertEqual(hull(3, ok), [4, 0, 1, 2, 4])


class Loops(unittest.TestCase):
    def test_few_calls_lie_within_one_another(self):
        # Fewer than the longest lists and the largest hull have rows.
        allowed = sys.getrecursionlimit()
        sys.setrecursionlimit(len(inspect.stack(0)) + 15)
        try:
            given = [call(*handed) for call, handed in CASES]
        finally:
            sys.setrecursionlimit(allowed)
        self.assertEqual(given, [call(*handed) for call, handed in CASES])


class NothingElse(unittest.TestCase):
    def test_nothing_is_printed(self):
        out, err = io.StringIO(), io.StringIO()
        with contextlib.redirect_stdout(out), contextlib.redirect_stderr(err):
            for call, handed in CASES:
                call(*handed)
        self.assertEqual((out.getvalue(), err.getvalue()), ("", ""))

    def test_the_package_imports_prints_and_reads_nothing(self):
        for path in sorted(PACKAGE.glob("*.py")):
            for node in ast.walk(ast.parse(path.read_text(encoding="ascii"))):
                self.assertNotIsInstance(node, (ast.Import, ast.ImportFrom), path.name)
                if isinstance(node, ast.Name):
                    self.assertNotIn(node.id, ("print", "open", "input", "eval", "exec"), path.name)

    def test_only_modules_lie_in_the_package(self):
        others = [path.name for path in PACKAGE.iterdir() if path.suffix != ".py" and path.name != "__pycache__"]
        self.assertEqual(others, [])


if __name__ == "__main__":
    unittest.main()
