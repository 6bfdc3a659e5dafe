"""What the interface says besides the answers: kinds, nothing changed, nothing kept, nothing printed or read."""

import ast
import contextlib
import inspect
import io
import pathlib
import unittest

import majorityrows.panel
from majorityrows.panel import counts, major

CALLS = (major, counts)
PANELS = (
    (1, [0, 1], [1, 0, 1]),
    (3, [7, 2, 1, 0], [1, 2, 7]),
    (4, [15, 0], [15, 0]),
    (5, list(range(31, -1, -1)), list(range(15))),
    (1, [1], [1]),
    (0, [0], [0]),
    (6, [0], [0]),
    (3, [], [0]),
    (3, [2, 1, 2], [1]),
    (3, [8, 1], [1]),
    (3, [2, 1], []),
    (3, [2, 1], [0]),
    (3, [2, 1], [1] * 16),
    (5, list(range(40)), [7] * 40),
)
PACKAGE = pathlib.Path(majorityrows.panel.__file__).parent


def refuse_change(self, *args, **kwargs):
    raise AssertionError("what was handed in was changed")


class Untouchable(list):
    """A list that tells on whoever changes it, even if the change is undone later."""

    append = extend = insert = pop = remove = clear = sort = reverse = refuse_change
    __setitem__ = __delitem__ = __iadd__ = __imul__ = refuse_change


class Kinds(unittest.TestCase):
    def test_parameters_are_called_as_told(self):
        for call in CALLS:
            self.assertEqual(list(inspect.signature(call).parameters), ["m", "ok", "v"])
            self.assertEqual(call(m=1, ok=[1], v=[1]), [1, 1])

    def test_one_list_of_ints_is_given_back(self):
        for call in CALLS:
            for m, ok, v in PANELS:
                given = call(m, ok, v)
                self.assertIs(type(given), list)
                for number in given:
                    self.assertIs(type(number), int)

    def test_how_many_numbers_are_given_back(self):
        for m in range(1, 6):
            self.assertEqual(len(major(m, [0, 1], [1, 0, 1])), 2)
            self.assertEqual(len(counts(m, [0, 1], [1, 0, 1])), m + 1)

    def test_only_a_refusal_is_below_zero(self):
        for call in CALLS:
            for m, ok, v in PANELS:
                given = call(m, ok, v)
                self.assertTrue(given == [-22] or min(given) >= 0)


class HandedIn(unittest.TestCase):
    def test_lists_are_afterwards_what_they_were(self):
        for call in CALLS:
            for m, ok, v in PANELS:
                rules, judges = list(ok), list(v)
                call(m, rules, judges)
                self.assertEqual((rules, judges), (ok, v))

    def test_lists_are_not_changed_for_a_while_either(self):
        for call in CALLS:
            for m, ok, v in PANELS:
                self.assertEqual(call(m, Untouchable(ok), Untouchable(v)), call(m, ok, v))

    def test_the_same_list_may_be_both(self):
        rows = [1, 2, 7]
        self.assertEqual(major(3, rows, rows), [3, 0])
        self.assertEqual(counts(3, rows, rows), [3, 2, 2, 1])
        self.assertEqual(rows, [1, 2, 7])


class NothingKept(unittest.TestCase):
    def test_calls_in_any_order_answer_alike(self):
        first = [call(*panel) for panel in PANELS for call in CALLS]
        again = [call(*panel) for panel in PANELS for call in CALLS]
        backwards = [call(*panel) for panel in PANELS[::-1] for call in CALLS[::-1]]
        self.assertEqual(again, first)
        self.assertEqual(backwards[::-1], first)

    def test_what_is_done_to_an_answer_does_not_reach_the_next(self):
        for call in CALLS:
            for panel in PANELS:
                given = call(*panel)
                expected = list(given)
                given.append(99)
                given[0] = 99
                self.assertEqual(call(*panel), expected)

    def test_what_is_done_to_the_lists_afterwards_is_seen_by_the_next_call(self):
        ok, v = [0, 1, 2, 7], [1, 2, 7]
        self.assertEqual(major(3, ok, v), [3, 0])
        ok.append(3)
        self.assertEqual(major(3, ok, v), [3, 1])
        v.append(7)
        self.assertEqual(counts(3, ok, v), [3, 3, 3, 2])


class NothingElse(unittest.TestCase):
    def test_nothing_is_printed(self):
        out, err = io.StringIO(), io.StringIO()
        with contextlib.redirect_stdout(out), contextlib.redirect_stderr(err):
            for call in CALLS:
                for panel in PANELS:
                    call(*panel)
        self.assertEqual((out.getvalue(), err.getvalue()), ("", ""))

    def test_the_package_imports_prints_and_reads_nothing(self):
        for path in sorted(PACKAGE.glob("*.py")):
            for node in ast.walk(ast.parse(path.read_text(encoding="ascii"))):
                self.assertNotIsInstance(node, (ast.Import, ast.ImportFrom), path.name)
                if isinstance(node, ast.Name):
                    self.assertNotIn(node.id, ("print", "open", "input", "eval", "exec"), path.name)

    def test_only_modules_lie_in_the_package(self):
        others = [path.name for path in PACKAGE.iterdir() if path.suffix != ".py" and path.name != "__pycache__"]
        self.assertEqual(others, [])


if __name__ == "__main__":
    unittest.main()
