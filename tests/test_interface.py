"""The interface: answers(calls), what it takes and what it gives back."""

import ast
import builtins
import inspect
import pathlib
import random
import sys
import unittest
from unittest import mock

import longestroute
from longestroute.table import answers
from tests.helper import (EDGE_ADDRESSES, EDGE_LENGTHS, OPEN, TOP_ADDRESS, TOP_HALF, TOP_PLACE, WRONG_LENGTHS,
                          drop, find, joined, put, slow_answers)

MIXED = [
    1,
    4, 0, 0,
    2, 0, TOP_PLACE, TOP_HALF, TOP_HALF,
    2, 64, 7, 1, 5,
    2, 64, 8, 1, 6,
    4, 1, 0,
    2, 129, 9, 0, 0,
    3, -1, 0, 0,
    3, 65, 1, 0,
    2, 128, 0, TOP_HALF, TOP_HALF,
    4, TOP_HALF, TOP_HALF,
    4, TOP_HALF, TOP_HALF - 1,
    3, 64, 1, TOP_HALF,
    4, 1, 0,
    1,
    4, 1, 0,
]

MIXED_ANSWERED = [
    1, 0,
    1, -1,
    1, 0,
    1, 0,
    1, 1,
    2, 64, 8,
    1, -2,
    1, -2,
    1, 0,
    1, 0,
    2, 128, 0,
    2, 0, TOP_PLACE,
    1, 1,
    2, 0, TOP_PLACE,
    1, 0,
    1, -1,
]


class UnchangingList(list):
    """A list that fails as soon as it is changed, if only for a while."""

    def refuse(self, *handed, **named):
        raise AssertionError("what was handed in was changed")

    append = clear = extend = insert = pop = remove = reverse = sort = refuse
    __setitem__ = __delitem__ = __iadd__ = __imul__ = refuse


def near_address(source):
    """An address that often shares a long beginning with others of this kind."""
    address = source.choice(EDGE_ADDRESSES)
    if source.random() < 0.7:
        address ^= 1 << source.randrange(128)
    return address


def some_call(source):
    kind = source.choice(["put", "put", "put", "drop", "find", "find"])
    address = near_address(source)
    length = source.choice(EDGE_LENGTHS + WRONG_LENGTHS + (source.randrange(129),) * 5)
    if source.random() < 0.01:
        return OPEN
    if kind == "put":
        return put(length, source.choice((0, TOP_PLACE, source.randrange(2 ** 32))), address)
    return drop(length, address) if kind == "drop" else find(address)


class Answers(unittest.TestCase):
    def test_mixed_calls_number_by_number(self):
        self.assertEqual(answers(list(MIXED)), MIXED_ANSWERED)

    def test_gives_back_a_list_of_whole_numbers(self):
        given = answers(list(MIXED))
        self.assertIs(type(given), list)
        self.assertEqual({type(number) for number in given}, {int})

    def test_what_is_handed_in_is_the_same_afterwards(self):
        handed = list(MIXED)
        given = answers(handed)
        self.assertEqual(handed, MIXED)
        self.assertIsNot(given, handed)

    def test_what_is_handed_in_is_never_changed(self):
        self.assertEqual(answers(UnchangingList(MIXED)), MIXED_ANSWERED)

    def test_same_list_twice_gives_the_same_twice(self):
        handed = list(MIXED)
        first = answers(handed)
        second = answers(handed)
        self.assertEqual(first, MIXED_ANSWERED)
        self.assertEqual(second, MIXED_ANSWERED)
        self.assertIsNot(first, second)

    def test_nothing_is_kept_from_one_time_to_the_next(self):
        self.assertEqual(answers(joined([OPEN, put(0, 6, 0)])), [1, 0, 1, 0])
        self.assertEqual(answers(joined([OPEN, find(0), drop(0, 0), put(0, 6, 0)])), [1, 0, 1, -1, 1, 0, 1, 0])

    def test_what_was_given_back_may_be_changed(self):
        answers(list(MIXED)).clear()
        self.assertEqual(answers(list(MIXED)), MIXED_ANSWERED)

    def test_400_calls(self):
        calls = [OPEN] + [put(number % 129, number, TOP_ADDRESS) for number in range(200)]
        calls += [find(TOP_ADDRESS - number) for number in range(199)]
        self.assertEqual(len(calls), 400)
        self.assertEqual(answers(joined(calls)), slow_answers(calls))

    def test_400_calls_without_nesting(self):
        calls = [OPEN] + [put(128, number, number) for number in range(399)]
        limit = sys.getrecursionlimit()
        sys.setrecursionlimit(len(inspect.stack()) + 60)
        try:
            given = answers(joined(calls))
        finally:
            sys.setrecursionlimit(limit)
        self.assertEqual(given, [1, 0] * 400)

    def test_many_calls_as_the_slow_table_answers(self):
        for seed in range(60):
            source = random.Random(seed)
            calls = [OPEN] + [some_call(source) for number in range(399)]
            self.assertEqual(answers(joined(calls)), slow_answers(calls), seed)

    def test_prints_reads_and_imports_nothing(self):
        refusal = AssertionError("something outside was asked for")
        handed = list(MIXED)
        with mock.patch.object(builtins, "print", side_effect=refusal), \
                mock.patch.object(builtins, "open", side_effect=refusal), \
                mock.patch.object(builtins, "input", side_effect=refusal), \
                mock.patch.object(builtins, "__import__", side_effect=refusal):
            given = answers(handed)
        self.assertEqual(given, MIXED_ANSWERED)


class Package(unittest.TestCase):
    def files(self):
        return sorted(pathlib.Path(longestroute.__file__).parent.glob("*.py"))

    def test_no_file_imports_anything(self):
        for path in self.files():
            for node in ast.walk(ast.parse(path.read_text())):
                self.assertNotIsInstance(node, (ast.Import, ast.ImportFrom), path.name)

    def test_sizes_and_signs(self):
        for path in self.files():
            text = path.read_text()
            self.assertLessEqual(set(text), set(map(chr, range(32, 127))) | {"\n"}, path.name)
            self.assertLessEqual(len(text.splitlines()), 400, path.name)
            self.assertLessEqual(max(map(len, text.splitlines())), 120, path.name)
            for node in ast.walk(ast.parse(text)):
                if isinstance(node, ast.FunctionDef):
                    self.assertLessEqual(node.end_lineno - node.lineno + 1, 40, node.name)


if __name__ == "__main__":
    unittest.main()
