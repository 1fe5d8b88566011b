"""The interface: answers(calls), what it takes and what it gives back."""

import ast
import builtins
import inspect
import pathlib
import random
import sys
import unittest
from unittest import mock

import longestroute
from longestroute.table import answers
from tests.helper import (EDGE_ADDRESSES, EDGE_LENGTHS, FULL, FULL_ANSWERED, FULL_RANGES, OPEN, TOP_ADDRESS, TOP_HALF,
                          TOP_PLACE, WRONG_LENGTHS, ask, drop, find, full_listed, joined, kth, put, range_to,
                          slow_answers, stretch)

MIXED = [
    1,
    4, 0, 0,
    2, 0, TOP_PLACE, TOP_HALF, TOP_HALF,
    2, 64, 7, 1, 5,
    2, 64, 8, 1, 6,
    4, 1, 0,
    2, 129, 9, 0, 0,
    3, -1, 0, 0,
    3, 65, 1, 0,
    2, 128, 0, TOP_HALF, TOP_HALF,
    4, TOP_HALF, TOP_HALF,
    4, TOP_HALF, TOP_HALF - 1,
    5, 1, 0,
    5, 2, 3,
    7, 0,
    7, 1,
    7, 3,
    6, 5, 0, TOP_HALF, 1, 1,
    6, 5, 1, 0, 0, TOP_HALF,
    5, 0, TOP_HALF,
    5, 1, 2,
    7, 2,
    7, -1,
    3, 64, 1, TOP_HALF,
    4, 1, 0,
    4, 1, 2,
    6, 3, 0, 0, TOP_HALF, TOP_HALF,
    7, 0,
    7, 1,
    1,
    4, 1, 0,
    5, 1, 0,
    7, 0,
    6, 0, 1, 0, 1, TOP_HALF,
    5, 0, 9,
    5, 1, 9,
]

MIXED_ANSWERED = [
    1, 0,
    1, -1,
    1, 0,
    1, 0,
    1, 1,
    2, 64, 8,
    1, -2,
    1, -2,
    1, 0,
    1, 0,
    2, 128, 0,
    2, 0, TOP_PLACE,
    3, 1, 2 * 2 ** 64 - 1, 8,
    3, 1, TOP_ADDRESS - 1, TOP_PLACE,
    4, 3, 0, 0, TOP_PLACE,
    4, 3, 2 ** 64, 64, 8,
    1, -1,
    1, 2,
    1, -2,
    3, 1, 2 ** 64 + 1, 5,
    3, 1, 2 * 2 ** 64 - 1, 8,
    4, 5, 2 ** 64, 64, 8,
    1, -1,
    1, 1,
    2, 127, 5,
    2, 0, TOP_PLACE,
    1, 1,
    4, 1, 0, 0, 3,
    1, -1,
    1, 0,
    1, -1,
    2, 0, TOP_ADDRESS,
    1, -1,
    1, 1,
    2, 0, 2 ** 64 - 1,
    3, 1, 2 * 2 ** 64 - 1, 0,
]


class UnchangingList(list):
    """A list that fails as soon as it is changed, if only for a while."""

    def refuse(self, *handed, **named):
        raise AssertionError("what was handed in was changed")

    append = clear = extend = insert = pop = remove = reverse = sort = refuse
    __setitem__ = __delitem__ = __iadd__ = __imul__ = refuse


def near_address(source):
    """An address that often shares a long beginning with others of this kind."""
    address = source.choice(EDGE_ADDRESSES)
    if source.random() < 0.7:
        address ^= 1 << source.randrange(128)
    return address


def some_call(source):
    kind = source.choice(["put", "put", "put", "drop", "find", "find", "stretch", "stretch", "list", "range"])
    address = near_address(source)
    length = source.choice(EDGE_LENGTHS + WRONG_LENGTHS + (source.randrange(129),) * 5)
    # Few places, so that neighbours often lead to the same one.
    to = source.choice((0, 0, 1, 1, TOP_PLACE, source.randrange(2 ** 32)))
    if source.random() < 0.01:
        return OPEN
    if kind == "put":
        return put(length, to, address)
    if kind == "range":
        ends = [address, near_address(source)]
        return range_to(to, *(ends if source.random() < 0.2 else sorted(ends)))
    if kind == "list":
        return kth(source.choice((-1, 0, 1, 2, 2147483647, source.randrange(200))))
    return drop(length, address) if kind == "drop" else {"find": find, "stretch": stretch}[kind](address)


class Answers(unittest.TestCase):
    def test_mixed_calls_number_by_number(self):
        self.assertEqual(answers(list(MIXED)), MIXED_ANSWERED)

    def test_gives_back_a_list_of_whole_numbers(self):
        given = answers(list(MIXED))
        self.assertIs(type(given), list)
        self.assertEqual({type(number) for number in given}, {int})

    def test_what_is_handed_in_is_the_same_afterwards(self):
        handed = list(MIXED)
        given = answers(handed)
        self.assertEqual(handed, MIXED)
        self.assertIsNot(given, handed)

    def test_what_is_handed_in_is_never_changed(self):
        self.assertEqual(answers(UnchangingList(MIXED)), MIXED_ANSWERED)

    def test_same_list_twice_gives_the_same_twice(self):
        handed = list(MIXED)
        first = answers(handed)
        second = answers(handed)
        self.assertEqual(first, MIXED_ANSWERED)
        self.assertEqual(second, MIXED_ANSWERED)
        self.assertIsNot(first, second)

    def test_nothing_is_kept_from_one_time_to_the_next(self):
        self.assertEqual(answers(joined([OPEN, put(0, 6, 0), stretch(0)])), [1, 0, 1, 0, 3, 1, TOP_ADDRESS, 6])
        calls = [OPEN, find(0), stretch(0), kth(0), drop(0, 0), put(0, 6, 0)]
        self.assertEqual(answers(joined(calls)), [1, 0, 1, -1, 2, 0, TOP_ADDRESS, 1, -1, 1, 0, 1, 0])

    def test_what_was_given_back_may_be_changed(self):
        answers(list(MIXED)).clear()
        self.assertEqual(answers(list(MIXED)), MIXED_ANSWERED)

    def test_400_calls(self):
        calls = [OPEN] + [put(number % 129, number, TOP_ADDRESS) for number in range(200)]
        calls += [find(TOP_ADDRESS - number) for number in range(199)]
        self.assertEqual(len(calls), 400)
        self.assertEqual(answers(joined(calls)), slow_answers(calls))

    def test_400_calls_without_nesting(self):
        calls = [OPEN] + [put(128, number, number) for number in range(399)]
        limit = sys.getrecursionlimit()
        sys.setrecursionlimit(len(inspect.stack()) + 60)
        try:
            given = answers(joined(calls))
        finally:
            sys.setrecursionlimit(limit)
        self.assertEqual(given, [1, 0] * 400)

    def test_400_calls_on_a_full_table_without_nesting(self):
        calls = [OPEN] + FULL + [stretch(number << 119) for number in range(330)]
        limit = sys.getrecursionlimit()
        sys.setrecursionlimit(len(inspect.stack()) + 60)
        try:
            given = answers(joined(calls))
        finally:
            sys.setrecursionlimit(limit)
        self.assertEqual(given[:2 + 2 * len(FULL)], joined([[1, 0]] + [[1] + answer for answer in FULL_ANSWERED]))
        self.assertEqual(given[-3:], [2, 0, TOP_ADDRESS])

    def test_400_calls_of_ranges_of_254_beginnings(self):
        calls = [range_to(number, 1, TOP_ADDRESS - 1) for number in range(398)]
        self.assertEqual(ask(*calls, stretch(1)), [[254]] * 398 + [[1, TOP_ADDRESS - 1, 397]])

    def test_400_calls_of_ranges_that_fill_the_table_again_and_again(self):
        calls = FULL * 5
        calls += [stretch(first) for to, first, last in FULL_RANGES[:50]]
        asked = ask(*calls, kth(0))
        self.assertEqual(asked[:len(FULL) * 5], FULL_ANSWERED * 5)
        self.assertEqual(asked[len(FULL) * 5:-1], [[1, last, to] for to, first, last in FULL_RANGES[:50]])
        self.assertEqual(asked[-1], [16384, 1, 128, 100])

    def test_400_calls_with_lists_of_a_full_table(self):
        wanted = full_listed()
        ks = [number * 16383 // 329 for number in range(330)]
        asked = ask(*FULL, *[kth(k) for k in ks])[len(FULL):]
        self.assertEqual(asked, [[16384] + wanted[k] for k in ks])

    def test_400_calls_with_changes_between_stretches_of_a_full_table(self):
        calls = []
        wanted = []
        for number in range(110):
            to, first, last = FULL_RANGES[number % 68]
            calls += [put(128, 5, first), stretch(first), put(128, to, first)]
            wanted += [[1], [1, first, 5], [1]]
        self.assertEqual(ask(*FULL, *calls)[len(FULL):], wanted)

    def test_many_calls_as_the_slow_table_answers(self):
        for seed in range(30):
            source = random.Random(seed)
            calls = [OPEN] + [some_call(source) for number in range(399)]
            self.assertEqual(answers(joined(calls)), slow_answers(calls), seed)

    def test_prints_reads_and_imports_nothing(self):
        refusal = AssertionError("something outside was asked for")
        handed = list(MIXED)
        with mock.patch.object(builtins, "print", side_effect=refusal), \
                mock.patch.object(builtins, "open", side_effect=refusal), \
                mock.patch.object(builtins, "input", side_effect=refusal), \
                mock.patch.object(builtins, "__import__", side_effect=refusal):
            given = answers(handed)
        self.assertEqual(given, MIXED_ANSWERED)


class Package(unittest.TestCase):
    def files(self):
        return sorted(pathlib.Path(longestroute.__file__).parent.glob("*.py"))

    def test_no_file_imports_anything(self):
        for path in self.files():
            for node in ast.walk(ast.parse(path.read_text())):
                self.assertNotIsInstance(node, (ast.Import, ast.ImportFrom), path.name)

    def test_sizes_and_signs(self):
        for path in self.files():
            text = path.read_text()
            self.assertLessEqual(set(text), set(map(chr, range(32, 127))) | {"\n"}, path.name)
            self.assertLessEqual(len(text.splitlines()), 400, path.name)
            self.assertLessEqual(max(map(len, text.splitlines())), 120, path.name)
            for node in ast.walk(ast.parse(text)):
                if isinstance(node, ast.FunctionDef):
                    self.assertLessEqual(node.end_lineno - node.lineno + 1, 40, node.name)


if __name__ == "__main__":
    unittest.main()
