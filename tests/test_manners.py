"""What holds for every function: nothing changed, kept, printed, read or imported."""

import ast
import contextlib
import copy
import io
import os
import unittest
from unittest import mock

import abacusbooks
from abacusbooks.books import best, book, right, sum_of
from makers import CARRY, EACH_DECK, SOROBAN, SUANPAN, right_book, standing_of

PACKAGE = os.path.dirname(abacusbooks.__file__)

BOOKS = [
    [],
    [[0, 7, 8, 0, 0, 0, 1, 3, 0], [1, 2, 5]],
    [[0, 7, 8], [0, 7, 8]],
    [[0, 7, 8], [0, 7]],
    [[0, 7, 8], [0, 7, 9, 1, 0, 0], [2, 0, 0]],
    [[op, d, x] + [31, 15, 15] * 10 for op in range(2) for d in range(20) for x in range(20)],
]


# Each call that is made: the function, and what is handed in.
CALLS = [(book, [rows]) for rows in BOOKS] + [(right, given) for given in [
    [SOROBAN, EACH_DECK, right_book(SOROBAN)],
    [SOROBAN + SUANPAN, EACH_DECK, right_book(SUANPAN, 1)],
    [SOROBAN, EACH_DECK, right_book(SOROBAN)[:-1]],
    [SOROBAN, [0], BOOKS[1]],
    [SOROBAN[:-1], EACH_DECK, BOOKS[1]],
    [SOROBAN, EACH_DECK[:-1], BOOKS[1]],
    [SOROBAN, EACH_DECK, BOOKS[2]],
    [SOROBAN * 64, EACH_DECK, BOOKS[5]],
]] + [(sum_of, given) for given in [
    [0, 0, 1, 58, SUANPAN * 3, EACH_DECK, standing_of(SUANPAN * 3, 789), right_book(SOROBAN)],
    [1, 1, 0, 789, SOROBAN * 3, EACH_DECK, standing_of(SOROBAN * 3, 800), right_book(SOROBAN, 1)],
    [0, 0, 2, 0, SOROBAN * 3, EACH_DECK, standing_of(SOROBAN * 3, 800), BOOKS[1]],
    [0, 1, 2, 999, SOROBAN * 3, EACH_DECK, standing_of(SOROBAN * 3, 1), right_book(SOROBAN)],
    [0, 1, 0, 7, SOROBAN, EACH_DECK, standing_of(SOROBAN, 8), [[0, 7, 8, 1, 2, 0, 31, 1, 0]]],
    [0, 0, 0, 1, SOROBAN * 64, EACH_DECK, [0] * 189 + [1, 0, 0], [[0, 1, 0, 0, 1, 0, 1, 1, 0] + CARRY * 8]],
    [0, 0, 3, 1, SOROBAN * 3, EACH_DECK, [0] * 9, []],
    [0, 0, 0, 1000, SOROBAN * 3, EACH_DECK, [0] * 9, []],
    [0, 0, 0, 1, SUANPAN, EACH_DECK, [5, 0, 0], []],
    [0, 0, 0, 1, SUANPAN, EACH_DECK, [6, 0, 0], []],
    [0, 0, 0, 1, [], [], [], [[]]],
    [0, 0, 0, 1, SUANPAN, [], [], [[]]],
    [0, 0, 0, 1, SUANPAN, EACH_DECK, [0, 0, 0], [[]]],
]] + [(best, given) for given in [
    [0, 0, SOROBAN, EACH_DECK],
    [1, 1, SOROBAN + SUANPAN, EACH_DECK],
    [0, 1, [20, 15, 1, 15, 1, 15, 1], EACH_DECK + [0, 1, 15, 1, 2, 15, 255] * 26],
    [0, 0, SOROBAN, [0]],
    [0, 0, [11, 10, 1, 0, 0, 0, 0], [0, 0, 1, 1, 0, 0, 0, 1, 0, 2, 1, 0, 0, 0, 1]],
    [1, 0, SOROBAN, EACH_DECK],
    [0, 2, SOROBAN, EACH_DECK],
    [0, 0, SOROBAN[:-1], EACH_DECK],
    [0, 0, SOROBAN, EACH_DECK[:-1]],
]]


def forbid(name):
    def refuse(self, *args, **kwargs):
        raise AssertionError(f"{name} on what was handed in")
    return refuse


class Untouchable(list):
    """A list that can't be changed, not for a while either."""


for changing in ("__setitem__", "__delitem__", "__iadd__", "__imul__", "append", "clear", "extend", "insert",
                 "pop", "remove", "reverse", "sort"):
    setattr(Untouchable, changing, forbid(changing))


def untouchable(argument):
    """A list, and each list in it, as ones that can't be changed; a number as it is."""
    return Untouchable(map(untouchable, argument)) if isinstance(argument, list) else argument


def members(argument):
    return list(argument) if isinstance(argument, list) else [argument]


def package_trees():
    for folder, unused, files in os.walk(PACKAGE):
        for file in sorted(files):
            if file.endswith(".py"):
                path = os.path.join(folder, file)
                with open(path, encoding="utf-8") as source:
                    yield path, ast.parse(source.read())


class Manners(unittest.TestCase):
    def test_what_is_handed_in_stays_as_it_was(self):
        for call, given in CALLS:
            before = copy.deepcopy(given)
            same = [members(argument) for argument in given]
            call(*given)
            self.assertEqual(given, before)
            for argument, kept in zip(given, same):
                self.assertTrue(all(member is old for member, old in zip(members(argument), kept)))

    def test_what_is_handed_in_is_not_changed_for_a_while(self):
        for call, given in CALLS:
            self.assertEqual(call(*[untouchable(argument) for argument in given]), call(*given))

    def test_the_same_call_again(self):
        first = [call(*given) for call, given in CALLS]
        self.assertEqual([call(*given) for call, given in CALLS], first)
        self.assertEqual([call(*given) for call, given in CALLS[::-1]], first[::-1])
        self.assertEqual([call(*copy.deepcopy(given)) for call, given in CALLS], first)

    def test_the_same_list_with_other_rows_in_it(self):
        rows = [[0, 1, 1]]
        self.assertEqual(book(rows), [0])
        rows.append([0, 1, 1])
        self.assertEqual(book(rows), [-5, 9, 1])
        rows[1][2] = 2
        self.assertEqual(book(rows), [0])

    def test_the_same_lists_with_other_numbers_in_them(self):
        make, hand, rows = list(SOROBAN), list(EACH_DECK), right_book(SOROBAN)
        self.assertEqual(right(make, hand, rows), [1])
        make[0] = 9
        self.assertEqual(right(make, hand, rows), [0, 0, 0, 1, 8, 2])
        make[0] = 10
        hand[3] = 1
        self.assertEqual(right(make, hand, rows), [0, 0, 0, 2, 0, 1])
        hand[3] = 15
        rows[0][4] = 2
        self.assertEqual(right(make, hand, rows), [0, 0, 0, 1, 0, 2])
        rows[0][4] = 1
        self.assertEqual(right(make, hand, rows), [1])

    def test_the_same_standing_with_other_numbers_in_it(self):
        standing, rows = [1, 0, 0], right_book(SOROBAN)
        self.assertEqual(sum_of(0, 0, 0, 1, SOROBAN, EACH_DECK, standing, rows), [0, 1, 2, 0, 0, 0, 0, 1, 0])
        standing[0] = 3
        self.assertEqual(sum_of(0, 0, 0, 1, SOROBAN, EACH_DECK, standing, rows), [0, 1, 4, 0, 0, 0, 0, 1, 0])
        standing[2] = 1
        self.assertEqual(sum_of(0, 0, 0, 1, SOROBAN, EACH_DECK, standing, rows), [-5, 5, 2])

    def test_the_same_make_and_hand_with_other_numbers_in_them(self):
        make, hand = [2, 1, 1, 0, 0, 0, 0], [0, 0, 1, 1, 0, 0, 0, 1, 0, 2, 1, 0, 0, 0, 1]
        first = best(0, 0, make, hand)
        self.assertEqual(first[:8], [0, 0, 1, 0, 1, 0, 1, 0])
        hand[2] = 2
        self.assertEqual(best(0, 0, make, hand), [-2, 0, 1, 0])
        hand[2] = 1
        make[0] = 3
        self.assertEqual(best(0, 0, make, hand), [-5, 4, 0])
        make[1] = 2
        self.assertEqual(best(0, 0, make, hand)[:15], [0, 0, 1, 0, 1, 0, 1, 0, 0, 1, 1, 1, 0, 1, 0])
        make[:2] = [2, 1]
        self.assertEqual(best(0, 0, make, hand), first)

    def test_an_answer_is_the_callers_own(self):
        for call, given in CALLS:
            answer = call(*given)
            expected = list(answer)
            answer.append(77)
            answer[0] = 99
            self.assertEqual(call(*given), expected)

    def test_an_answer_is_a_list_of_whole_numbers(self):
        for call, given in CALLS:
            answer = call(*given)
            self.assertIs(type(answer), list)
            self.assertEqual({type(number) for number in answer}, {int})

    def test_the_arguments_by_their_names(self):
        self.assertEqual(book(book=[[0, 1, 1], [0, 1, 1]]), [-5, 9, 1])
        self.assertEqual(right(book=right_book(SOROBAN), hand=EACH_DECK, make=SOROBAN), [1])
        answer = sum_of(book=right_book(SOROBAN), standing=[1, 0, 0, 0, 0, 0], hand=EACH_DECK, make=SOROBAN * 2,
                        v=2, h=1, order=1, op=0)
        self.assertEqual(answer, [0, 8, 3, 0, 0, 0, 0, 0, 0, 0, 2, 0])
        self.assertEqual(best(hand=EACH_DECK, make=SOROBAN, where=0, rod=0)[:8], [0, 0, 1, 0, 1, 0, 1, 0])

    def test_nothing_is_printed_or_read(self):
        out, err = io.StringIO(), io.StringIO()
        refuse = mock.Mock(side_effect=AssertionError("read"))
        with contextlib.redirect_stdout(out), contextlib.redirect_stderr(err):
            with mock.patch("builtins.open", refuse), mock.patch("builtins.input", refuse):
                for call, given in CALLS:
                    call(*given)
        self.assertEqual((out.getvalue(), err.getvalue()), ("", ""))

    def test_nothing_but_the_package_is_imported(self):
        for path, tree in package_trees():
            for node in ast.walk(tree):
                self.assertNotIsInstance(node, ast.Import, path)
                if isinstance(node, ast.ImportFrom):
                    self.assertEqual((node.level, node.module.split(".")[0]), (0, "abacusbooks"), path)

    def test_no_function_calls_itself_in_whatever_many_steps(self):
        # What is nested, or as long as its input, is gone through by loops.
        calls = {}
        for path, tree in package_trees():
            for node in ast.walk(tree):
                if isinstance(node, ast.FunctionDef):
                    calls.setdefault(node.name, set()).update(called_in(node))
        for name in calls:
            reached, ahead = set(), {name}
            while ahead:
                ahead = {called for caller in ahead for called in calls[caller] if called in calls} - reached
                reached |= ahead
            self.assertNotIn(name, reached)


def called_in(function):
    """The names of what a function calls, methods among them."""
    called = [node.func for node in ast.walk(function) if isinstance(node, ast.Call)]
    return {func.id if isinstance(func, ast.Name) else func.attr for func in called}


if __name__ == "__main__":
    unittest.main()
