"""Point 6: list."""

import itertools
import unittest

from tests.helper import (EDGE_ADDRESSES, FULL, OPEN, TOP_ADDRESS, TOP_PLACE, ask, drop, find, full_listed, kth,
                          listed, put, range_to, stretch)

NEVER_THERE = (-1, -2, -2147483648, 2147483647)


class Order(unittest.TestCase):
    def test_of_the_same_bits_the_shorter_first(self):
        for order in itertools.permutations([(0, 1), (1, 2), (64, 3), (128, 4)]):
            puts = [put(length, to, 0) for length, to in order]
            self.assertEqual(listed(*puts), [(0, 0, 1), (0, 1, 2), (0, 64, 3), (0, 128, 4)], order)

    def test_by_the_bits_whatever_the_lengths(self):
        for order in itertools.permutations([(128, 1, 1), (1, 2, 2 ** 127), (127, 3, 2), (65, 4, 2 ** 63)]):
            puts = [put(length, to, address) for length, to, address in order]
            wanted = [(1, 128, 1), (2, 127, 3), (2 ** 63, 65, 4), (2 ** 127, 1, 2)]
            self.assertEqual(listed(*puts), wanted, order)

    def test_by_the_bits_first_and_the_length_after_them(self):
        puts = [put(128, 1, 8), put(125, 2, 8), put(124, 3, 0), put(128, 4, 0), put(125, 5, 0), put(128, 6, 7)]
        self.assertEqual(listed(*puts), [(0, 124, 3), (0, 125, 5), (0, 128, 4), (7, 128, 6), (8, 125, 2), (8, 128, 1)])

    def test_not_by_places(self):
        puts = [put(128, TOP_PLACE - number, number) for number in range(30)]
        self.assertEqual(listed(*puts), [(number, 128, TOP_PLACE - number) for number in range(30)])

    def test_as_numbers_and_not_as_texts(self):
        numbers = [9, 10, 99, 100, 2 ** 64, 2 ** 127, TOP_ADDRESS]
        self.assertEqual(listed(*[put(128, 1, number) for number in reversed(numbers)]),
                         [(number, 128, 1) for number in numbers])

    def test_every_length_at_both_ends(self):
        puts = [put(length, length, address) for length in range(129) for address in (TOP_ADDRESS, 0)]
        wanted = [[257, 0, length, length] for length in range(129)]
        wanted += [[257, 2 ** 128 - 2 ** (128 - length), length, length] for length in range(1, 129)]
        # The puts leave room for some of the lists only.
        for start in (0, 128):
            asked = ask(*puts, *[kth(k) for k in range(start, start + 129)])[len(puts):]
            self.assertEqual(asked, wanted[start:start + 129])


class FourNumbers(unittest.TestCase):
    def test_bits_have_zeros_behind(self):
        for length in range(129):
            asked = ask(put(length, 6, TOP_ADDRESS), kth(0))
            self.assertEqual(asked[1], [1, 2 ** 128 - 2 ** (128 - length), length, 6], length)

    def test_address_is_one_number(self):
        for address in EDGE_ADDRESSES:
            self.assertEqual(ask(put(128, 0, address), kth(0))[1], [1, address, 128, 0])

    def test_places_0_and_the_highest(self):
        asked = ask(put(8, 0, 0), put(9, TOP_PLACE, 0), kth(0), kth(1))
        self.assertEqual(asked[2:], [[2, 0, 8, 0], [2, 0, 9, TOP_PLACE]])


class BetweenCalls(unittest.TestCase):
    def test_after_put(self):
        asked = ask(kth(0), put(8, 1, 0), kth(0), put(8, 2, 0), kth(0), put(7, 3, 0), kth(0), kth(1), put(128, 4, 0), kth(2))
        self.assertEqual(asked, [[-1], [0], [1, 0, 8, 1], [1], [1, 0, 8, 2], [0], [2, 0, 7, 3], [2, 0, 8, 2],
                                 [0], [3, 0, 128, 4]])

    def test_after_drop(self):
        puts = [put(128, number, number) for number in range(5)]
        asked = ask(*puts, drop(128, 2), kth(1), kth(2), kth(3), kth(4), drop(128, 0), drop(128, 4), drop(128, 4),
                    kth(0), kth(1), kth(2))
        self.assertEqual(asked[5:], [[1], [4, 1, 128, 1], [4, 3, 128, 3], [4, 4, 128, 4], [-1], [1], [1], [0],
                                     [2, 1, 128, 1], [2, 3, 128, 3], [-1]])

    def test_after_the_last_one_is_dropped(self):
        self.assertEqual(ask(put(0, 1, 0), kth(0), drop(0, 0), kth(0))[1:], [[1, 0, 0, 1], [1], [-1]])

    def test_dropped_and_put_again(self):
        puts = [put(128, number, number) for number in range(3)]
        self.assertEqual(listed(*puts, drop(128, 1), put(128, 7, 1)), [(0, 128, 0), (1, 128, 7), (2, 128, 2)])

    def test_after_range(self):
        puts = [put(0, 1, 0), put(124, 2, 16), put(128, 3, 20), put(128, 4, 40)]
        self.assertEqual(listed(*puts, range_to(9, 18, 32)),
                         [(0, 0, 1), (16, 124, 2), (18, 127, 9), (20, 126, 9), (24, 125, 9), (32, 128, 9), (40, 128, 4)])

    def test_after_range_and_put_and_drop_in_it(self):
        calls = [range_to(9, 18, 32), put(128, 5, 19), drop(126, 20), put(124, 6, 16)]
        self.assertEqual(listed(*calls), [(16, 124, 6), (18, 127, 9), (19, 128, 5), (24, 125, 9), (32, 128, 9)])

    def test_after_open(self):
        asked = ask(put(0, 1, 0), put(128, 2, 0), OPEN, kth(0), kth(1), put(128, 3, 5), kth(0), kth(1))
        self.assertEqual(asked[2:], [[0], [-1], [-1], [0], [1, 5, 128, 3], [-1]])

    def test_after_refusals(self):
        puts = [put(0, 1, 0), put(128, 2, 0)]
        refused = [put(129, 3, 0), put(-1, 3, 0), drop(129, 0), drop(-1, 0), range_to(3, 1, 0)]
        self.assertEqual(listed(*puts, *refused), listed(*puts))

    def test_changes_nothing(self):
        asked = ask(put(8, 1, 0), kth(0), kth(1), kth(-1), kth(0), find(0), stretch(0), drop(8, 0))
        self.assertEqual(asked[1:], [[1, 0, 8, 1], [-1], [-1], [1, 0, 8, 1], [8, 1], [1, 2 ** 120 - 1, 1], [1]])


class NotThere(unittest.TestCase):
    def test_table_with_nothing_in_it(self):
        for k in NEVER_THERE + (0, 1):
            self.assertEqual(ask(kth(k)), [[-1]], k)

    def test_k_ends_one_before_how_many_there_are(self):
        for count in range(1, 6):
            puts = [put(128, number, number) for number in range(count)]
            for k in NEVER_THERE + (-count, -count - 1, count, count + 1):
                self.assertEqual(ask(*puts, kth(k))[count:], [[-1]], (count, k))
            self.assertEqual(ask(*puts, kth(count - 1))[count:], [[count, count - 1, 128, count - 1]])

    def test_full_table(self):
        asked = ask(*FULL, *[kth(k) for k in NEVER_THERE + (16384, 16383, 0)])[len(FULL):]
        wanted = full_listed()
        self.assertEqual(asked, [[-1]] * 5 + [[16384] + wanted[16383], [16384] + wanted[0]])


if __name__ == "__main__":
    unittest.main()
