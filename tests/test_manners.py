"""What holds for every function: nothing changed, kept, printed, read or imported."""

import ast
import contextlib
import copy
import io
import os
import unittest
from unittest import mock

import abacusbooks
from abacusbooks.books import book

PACKAGE = os.path.dirname(abacusbooks.__file__)

BOOKS = [
    [],
    [[0, 7, 8, 0, 0, 0, 1, 3, 0], [1, 2, 5]],
    [[0, 7, 8], [0, 7, 8]],
    [[0, 7, 8], [0, 7]],
    [[0, 7, 8], [0, 7, 9, 1, 0, 0], [2, 0, 0]],
    [[op, d, x] + [31, 15, 15] * 10 for op in range(2) for d in range(20) for x in range(20)],
]


def forbid(name):
    def refuse(self, *args, **kwargs):
        raise AssertionError(f"{name} on what was handed in")
    return refuse


class Untouchable(list):
    """A list that can't be changed, not for a while either."""


for changing in ("__setitem__", "__delitem__", "__iadd__", "__imul__", "append", "clear", "extend", "insert",
                 "pop", "remove", "reverse", "sort"):
    setattr(Untouchable, changing, forbid(changing))


def package_trees():
    for folder, unused, files in os.walk(PACKAGE):
        for file in sorted(files):
            if file.endswith(".py"):
                path = os.path.join(folder, file)
                with open(path, encoding="utf-8") as source:
                    yield path, ast.parse(source.read())


class Manners(unittest.TestCase):
    def test_what_is_handed_in_stays_as_it_was(self):
        for rows in BOOKS:
            before = copy.deepcopy(rows)
            same = list(rows)
            book(rows)
            self.assertEqual(rows, before)
            self.assertTrue(all(row is kept for row, kept in zip(rows, same)))

    def test_what_is_handed_in_is_not_changed_for_a_while(self):
        for rows in BOOKS:
            self.assertEqual(book(Untouchable(Untouchable(row) for row in rows)), book(rows))

    def test_the_same_call_again(self):
        first = [book(rows) for rows in BOOKS]
        self.assertEqual([book(rows) for rows in BOOKS], first)
        self.assertEqual([book(rows) for rows in BOOKS[::-1]], first[::-1])
        self.assertEqual([book(copy.deepcopy(rows)) for rows in BOOKS], first)

    def test_the_same_list_with_other_rows_in_it(self):
        rows = [[0, 1, 1]]
        self.assertEqual(book(rows), [0])
        rows.append([0, 1, 1])
        self.assertEqual(book(rows), [-5, 9, 1])
        rows[1][2] = 2
        self.assertEqual(book(rows), [0])

    def test_an_answer_is_the_callers_own(self):
        for rows in BOOKS:
            answer = book(rows)
            expected = list(answer)
            answer.append(77)
            answer[0] = 99
            self.assertEqual(book(rows), expected)

    def test_an_answer_is_a_list_of_whole_numbers(self):
        for rows in BOOKS:
            answer = book(rows)
            self.assertIs(type(answer), list)
            self.assertEqual({type(number) for number in answer}, {int})

    def test_the_argument_by_its_name(self):
        self.assertEqual(book(book=[[0, 1, 1], [0, 1, 1]]), [-5, 9, 1])

    def test_nothing_is_printed_or_read(self):
        out, err = io.StringIO(), io.StringIO()
        refuse = mock.Mock(side_effect=AssertionError("read"))
        with contextlib.redirect_stdout(out), contextlib.redirect_stderr(err):
            with mock.patch("builtins.open", refuse), mock.patch("builtins.input", refuse):
                for rows in BOOKS:
                    book(rows)
        self.assertEqual((out.getvalue(), err.getvalue()), ("", ""))

    def test_nothing_but_the_package_is_imported(self):
        for path, tree in package_trees():
            for node in ast.walk(tree):
                self.assertNotIsInstance(node, ast.Import, path)
                if isinstance(node, ast.ImportFrom):
                    self.assertEqual((node.level, node.module.split(".")[0]), (0, "abacusbooks"), path)

    def test_no_function_calls_itself(self):
        # What is as long as its input is gone through by loops.
        for path, tree in package_trees():
            for node in ast.walk(tree):
                if isinstance(node, ast.FunctionDef):
                    called = [call.func.id for call in ast.walk(node)
                              if isinstance(call, ast.Call) and isinstance(call.func, ast.Name)]
                    self.assertNotIn(node.name, called, path)


if __name__ == "__main__":
    unittest.main()
