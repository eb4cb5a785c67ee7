import ast
import contextlib
import io
import pathlib
import unittest

import datecubes
from datecubes.cubes import answers
from tests.helper import (
    HIGHEST, begins, fewest, idle, joined, mark, missing, need, show, want, wants, ways,
)

LINE = [
    begins(3, 2, 1), want(1, 9, 6), wants(1, 12), mark(0, 0, 1), mark(1, 9, 0), mark(2, 1, 2),
    show(0, 0, 1), show(0, 9, 1), missing(), idle(), need(),
    want(0, 0, 9), mark(3), show(), begins(HIGHEST, 1, 1), mark(0), show(0, 6, 2), missing(), idle(),
    begins(2, 2, 1), want(1, 9), want(9, 2), ways(), fewest(), mark(1, 6), mark(0, 2, 1), missing(), idle(), show(6, 1),
]
TOLD = [
    1, 0, 1, 1, 1, 11, 1, 0, 1, 0, 1, 5,
    4, 2, 0, 1, 2, 4, 1, 0, 1, 2, 4, 6, 0, 0, 3, 3, 1, 1, 6, 11, 11, 2, 2, 1, 1, 1, 1, 1, 1, 1, 0,
    1, -4, 1, -2, 1, -1, 1, -1, 1, 0, 1, 0, 4, 11, 0, 0, 1, 9, 4, 1, 0, 1, 6, 2, 1, 2, 2,
    1, 0, 1, 1, 1, 2, 5, 3, 1, 2, 1, 6, 5, 2, 1, 2, 1, 6, 1, 0, 1, 2, 1, 0, 1, 0, 3, 1, 1, 0,
]


class Untouchable(list):
    """A list that fails as soon as anything changes it, though it were put back afterwards."""

    def changed(self, *args, **named):
        raise AssertionError("what was handed in is changed")

    append = clear = extend = insert = pop = remove = reverse = sort = changed
    __setitem__ = __delitem__ = __iadd__ = __imul__ = changed


class Answers(unittest.TestCase):
    def test_answers_come_one_behind_another_with_their_counts(self):
        self.assertEqual(answers(joined(LINE)), TOLD)

    def test_one_call(self):
        self.assertEqual(answers([0, 2, 6, 0]), [1, 0])
        self.assertEqual(answers([1, 2, 0, 1]), [1, 1])
        self.assertEqual(answers([2, 1, 31]), [1, 31])
        self.assertEqual(answers([3, 0, 1, 5]), [1, 0])
        self.assertEqual(answers([4, 2, 0, 1]), [1, 0])
        self.assertEqual(answers([3, 0, 1, 5, 3, 1, 1, 6, 4, 2, 6, 5]), [1, 0, 1, 0, 3, 1, 1, 0])
        self.assertEqual(answers([5]), [1, 0])
        self.assertEqual(answers([6]), [1, 0])
        self.assertEqual(answers([7]), [11, 0, 0, 0, 0, 0, 0, 0, 0, 0, 0, 0])

    def test_calls_without_numbers_behind_a_row(self):
        row = [1, 2, 8, 3]
        self.assertEqual(answers([*row, 5]), [1, 1, 3, 1, 8, 3])
        self.assertEqual(answers([3, 0, 1, 8, 6]), [1, 0, 3, 1, 0, 8])
        self.assertEqual(answers([*row, 7]), [1, 1, 11, 2, 0, 0, 0, 1, 0, 0, 0, 0, 1, 0])
        self.assertEqual(answers([*row, 8]), [1, 1, 5, 1, 3, 8, 3, 8])
        self.assertEqual(answers([*row, 9]), [1, 1, 3, 1, 3, 8])

    def test_calls_without_numbers_behind_one_another(self):
        nothing = [11, 0, 0, 0, 0, 0, 0, 0, 0, 0, 0, 0]
        self.assertEqual(answers([9, 7, 5, 6, 8, 7, 5]), [1, -3, *nothing, 1, 0, 1, 0, 1, -3, *nothing, 1, 0])

    def test_a_refusal_is_its_number_alone(self):
        self.assertEqual(answers([0, 0, 6, 0]), [1, -1])
        self.assertEqual(answers([1, 0]), [1, -1])
        self.assertEqual(answers([2, 1, 0]), [1, -1])
        self.assertEqual(answers([3, 2, 0]), [1, -2])
        self.assertEqual(answers([4, 0]), [1, -1])
        self.assertEqual(answers([8]), [1, -3])
        self.assertEqual(answers([9]), [1, -3])
        self.assertEqual(answers([2, 1, 31, 9]), [1, 31, 1, -6])
        self.assertEqual(answers([0, 3, 3, 0, 2, 0, 9, 8, 9]), [1, 0, 1, 10, 1, -7, 1, -7])

    def test_calls_behind_empty_and_long_rows_are_found(self):
        for length in range(9):
            given = answers(joined([want(*[4] * length), show(*[4] * length), wants(1, 31)]))
            self.assertEqual(given, [1, 1, 1, 0, 1, 31] if length == 2 else [1, -1, 1, -1, 1, 31])
        for length in range(13):
            given = answers(joined([mark(0, *[4] * length), wants(1, 31)]))
            self.assertEqual(given, [1, 0 if length < 2 else -1, 1, 31])

    def test_60_calls(self):
        self.assertEqual(answers(joined([wants(1, 31)] * 60)), [1, 31] * 60)
        self.assertEqual(answers(joined([mark(1, *[HIGHEST] * 12)] * 60)), [1, -1] * 60)
        self.assertEqual(answers(joined([want(0, 7)] + [missing()] * 59)), [1, 1] + [3, 1, 0, 7] * 59)

    def test_gives_back_a_list_of_whole_numbers(self):
        given = answers(joined(LINE))
        self.assertIs(type(given), list)
        self.assertEqual({type(number) for number in given}, {int})


class NothingElse(unittest.TestCase):
    def test_what_is_handed_in_is_as_it_was(self):
        calls = joined(LINE)
        before = list(calls)
        answers(calls)
        self.assertEqual(calls, before)

    def test_what_is_handed_in_is_never_changed(self):
        self.assertEqual(answers(Untouchable(joined(LINE))), TOLD)

    def test_nothing_is_kept_from_one_time_to_the_next(self):
        first = answers(joined(LINE))
        first.append(7)
        answers(joined([begins(4, 1, 1), wants(0, 39), mark(0, 1)]))
        self.assertEqual(answers(joined(LINE)), TOLD)
        for _ in range(2):
            self.assertEqual(answers([3, 0, 1, 5, 4, 2, 5, 5, 1, 2, 5, 5]), [1, 0, 1, 0, 1, 1])

    def test_prints_nothing(self):
        out, err = io.StringIO(), io.StringIO()
        with contextlib.redirect_stdout(out), contextlib.redirect_stderr(err):
            answers(joined(LINE))
        self.assertEqual((out.getvalue(), err.getvalue()), ("", ""))

    def test_imports_prints_and_reads_nothing(self):
        for path in sorted(pathlib.Path(datecubes.__file__).parent.glob("*.py")):
            for node in ast.walk(ast.parse(path.read_text(encoding="utf-8"))):
                self.assertNotIsInstance(node, (ast.Import, ast.ImportFrom), path)
                if isinstance(node, ast.Name):
                    self.assertNotIn(node.id, ("print", "input", "open", "eval", "exec", "__import__"), path)


if __name__ == "__main__":
    unittest.main()
