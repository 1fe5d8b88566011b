"""Point 4: stretch."""

import random
import unittest

from tests.helper import (EDGE_ADDRESSES, EDGE_LENGTHS, FULL, FULL_RANGES, OPEN, TOP_ADDRESS, TOP_PLACE,
                          ask, drop, find, joined, kth, put, range_to, slow_answers, stretch)
from longestroute.table import answers


def of_length(length):
    """How many addresses have a beginning of this length."""
    return 2 ** (128 - length)


class Nowhere(unittest.TestCase):
    def test_table_with_nothing_in_it(self):
        for address in EDGE_ADDRESSES:
            self.assertEqual(ask(stretch(address)), [[0, TOP_ADDRESS]], address)

    def test_ends_ahead_of_the_first_beginning(self):
        for first in EDGE_ADDRESSES[1:]:
            asked = ask(put(128, 9, first), stretch(0), stretch(first - 1))
            self.assertEqual(asked[1:], [[0, first - 1], [0, first - 1]], first)

    def test_goes_on_behind_the_last_beginning(self):
        for there in EDGE_ADDRESSES[:-1]:
            asked = ask(put(128, 9, there), stretch(there + 1), stretch(TOP_ADDRESS))
            self.assertEqual(asked[1:], [[0, TOP_ADDRESS], [0, TOP_ADDRESS]], there)

    def test_lies_between_two_beginnings(self):
        asked = ask(put(126, 9, 4), put(126, 9, 16), stretch(8), stretch(11), stretch(15), stretch(7), stretch(16))
        self.assertEqual(asked[2:], [[0, 15], [0, 15], [0, 15], [1, 7, 9], [1, 19, 9]])

    def test_place_0_is_not_nowhere(self):
        asked = ask(put(126, 0, 4), stretch(0), stretch(3), stretch(4), stretch(7), stretch(8))
        self.assertEqual(asked[1:], [[0, 3], [0, 3], [1, 7, 0], [1, 7, 0], [0, TOP_ADDRESS]])

    def test_place_0_within_another_place(self):
        asked = ask(put(0, 5, 0), put(126, 0, 4), stretch(0), stretch(4), stretch(8))
        self.assertEqual(asked[2:], [[1, 3, 5], [1, 7, 0], [1, TOP_ADDRESS, 5]])

    def test_place_0_everywhere(self):
        self.assertEqual(ask(put(0, 0, 0), stretch(0), stretch(TOP_ADDRESS))[1:], [[1, TOP_ADDRESS, 0]] * 2)


class OneBeginning(unittest.TestCase):
    def test_its_first_its_middle_and_its_last_address(self):
        for length in EDGE_LENGTHS:
            size = of_length(length)
            for first in (0, TOP_ADDRESS + 1 - size, 2 ** 127 if length > 0 else 0):
                last = first + size - 1
                within = [first, first + size // 2, last]
                asked = ask(put(length, TOP_PLACE, last), *[stretch(address) for address in within])
                self.assertEqual(asked[1:], [[1, last, TOP_PLACE]] * 3, (length, first))

    def test_ends_at_the_last_address_of_all(self):
        for length in range(129):
            asked = ask(put(length, 6, TOP_ADDRESS), stretch(TOP_ADDRESS))
            self.assertEqual(asked[1:], [[1, TOP_ADDRESS, 6]], length)

    def test_looks_only_from_the_address_on(self):
        asked = ask(put(0, 6, 0), put(128, 7, 10), stretch(9), stretch(10), stretch(11))
        self.assertEqual(asked[2:], [[1, 9, 6], [1, 10, 7], [1, TOP_ADDRESS, 6]])

    def test_high_and_low_do_not_change_places(self):
        asked = ask([2, 128, 3, 1, 2], [5, 1, 2], [5, 2, 1], [5, 1, 1])
        self.assertEqual(asked[1:], [[1, 2 ** 64 + 2, 3], [0, TOP_ADDRESS], [0, 2 ** 64 + 1]])


class SeveralBeginnings(unittest.TestCase):
    def test_ends_where_a_longer_one_leads_elsewhere_and_goes_on_behind_it(self):
        asked = ask(put(120, 1, 0), put(126, 2, 16), stretch(0), stretch(15), stretch(16), stretch(19), stretch(20))
        self.assertEqual(asked[2:], [[1, 15, 1], [1, 15, 1], [1, 19, 2], [1, 19, 2], [1, 255, 1]])

    def test_neighbours_that_lead_to_one_place_are_one_stretch(self):
        asked = ask(put(126, 1, 4), put(125, 1, 8), put(128, 1, 16), put(128, 2, 17),
                    stretch(3), stretch(4), stretch(8), stretch(16), stretch(17))
        self.assertEqual(asked[4:], [[0, 3], [1, 16, 1], [1, 16, 1], [1, 16, 1], [1, 17, 2]])

    def test_neighbours_across_the_halves(self):
        asked = ask(put(64, 1, 2 ** 64 - 1), put(64, 1, 2 ** 64), put(1, 8, 0), put(1, 8, TOP_ADDRESS),
                    stretch(0), stretch(2 ** 65), stretch(2 ** 127 - 1))
        self.assertEqual(asked[4:], [[1, 2 ** 65 - 1, 1], [1, TOP_ADDRESS, 8], [1, TOP_ADDRESS, 8]])

    def test_longer_one_within_that_leads_to_the_same_place(self):
        asked = ask(put(120, 1, 0), put(126, 1, 16), stretch(0), stretch(16), stretch(18), stretch(20))
        self.assertEqual(asked[2:], [[1, 255, 1]] * 4)

    def test_longer_one_and_a_neighbour_that_lead_to_the_same_place(self):
        asked = ask(put(124, 1, 0), put(128, 1, 7), put(124, 1, 16), put(128, 1, 16), put(128, 1, 31),
                    stretch(0), stretch(7), stretch(31), stretch(32))
        self.assertEqual(asked[5:], [[1, 31, 1]] * 3 + [[0, TOP_ADDRESS]])

    def test_elsewhere_within_elsewhere_leads_back_to_the_first_place(self):
        asked = ask(put(120, 1, 0), put(124, 2, 16), put(124, 1, 32), put(128, 1, 20),
                    stretch(0), stretch(16), stretch(20), stretch(21), stretch(32))
        self.assertEqual(asked[4:], [[1, 15, 1], [1, 19, 2], [1, 20, 1], [1, 31, 2], [1, 255, 1]])

    def test_longer_one_ends_just_where_the_shorter_one_ends(self):
        asked = ask(put(124, 1, 16), put(127, 2, 30), stretch(16), stretch(29), stretch(30), stretch(31), stretch(32))
        self.assertEqual(asked[2:], [[1, 29, 1], [1, 29, 1], [1, 31, 2], [1, 31, 2], [0, TOP_ADDRESS]])

    def test_many_end_at_one_address(self):
        puts = [put(0, 1, 0)] + [put(length, 2 + length % 2, 31) for length in range(124, 129)]
        asked = ask(*puts, stretch(15), stretch(16), stretch(24), stretch(30), stretch(31), stretch(32))
        self.assertEqual(asked[len(puts):], [[1, 15, 1], [1, 23, 2], [1, 27, 3], [1, 30, 3], [1, 31, 2],
                                             [1, TOP_ADDRESS, 1]])

    def test_many_end_at_one_address_where_the_same_place_goes_on(self):
        puts = [put(123, 1, 0), put(124, 2, 16), put(125, 3, 24), put(126, 1, 28), put(123, 1, 32)]
        asked = ask(*puts, stretch(27), stretch(28), stretch(31), stretch(32))
        self.assertEqual(asked[5:], [[1, 27, 3], [1, 63, 1], [1, 63, 1], [1, 63, 1]])

    def test_longer_one_begins_just_where_the_shorter_one_begins(self):
        asked = ask(put(124, 1, 16), put(126, 2, 16), put(128, 1, 16), stretch(15), stretch(16), stretch(17), stretch(20))
        self.assertEqual(asked[3:], [[0, 15], [1, 16, 1], [1, 19, 2], [1, 31, 1]])

    def test_begins_and_leads_on_where_another_place_ends(self):
        asked = ask(put(0, 1, 0), put(124, 2, 0), put(124, 1, 16), put(128, 2, 16), stretch(0), stretch(16), stretch(17))
        self.assertEqual(asked[4:], [[1, 16, 2], [1, 16, 2], [1, TOP_ADDRESS, 1]])

    def test_shorter_one_that_does_not_count_anywhere(self):
        asked = ask(put(127, 9, 4), put(128, 1, 4), put(128, 1, 5), stretch(3), stretch(4), stretch(5))
        self.assertEqual(asked[3:], [[0, 3], [1, 5, 1], [1, 5, 1]])

    def test_every_length_at_the_first_and_at_the_last_address(self):
        puts = [put(length, length % 2, 0) for length in range(129)]
        wanted = [[1, 0, 0]] + [[1, 2 ** bits - 1, (128 - bits) % 2] for bits in range(1, 129)]
        starts = [0] + [2 ** bits - 1 if bits == 128 else 2 ** (bits - 1) for bits in range(1, 129)]
        self.assertEqual(ask(*puts, *[stretch(start) for start in starts])[129:], wanted)
        puts = [put(length, length, TOP_ADDRESS) for length in range(129)]
        wanted = [[1, TOP_ADDRESS - 2 ** bits, 127 - bits] for bits in range(128)] + [[1, TOP_ADDRESS, 128]]
        starts = [TOP_ADDRESS - 2 ** (bits + 1) + 1 for bits in range(128)] + [TOP_ADDRESS]
        self.assertEqual(ask(*puts, *[stretch(start) for start in starts])[129:], wanted)


class BetweenCalls(unittest.TestCase):
    def test_changes_nothing(self):
        asked = ask(put(124, 1, 16), stretch(0), stretch(16), find(16), find(0), kth(0), kth(1), stretch(16))
        self.assertEqual(asked[1:], [[0, 15], [1, 31, 1], [124, 1], [-1], [1, 16, 124, 1], [-1], [1, 31, 1]])

    def test_sees_what_is_put_anew(self):
        asked = ask(stretch(0), put(124, 1, 0), stretch(0), put(124, 2, 0), stretch(0), put(124, 2, 16), stretch(0))
        self.assertEqual(asked[::2], [[0, TOP_ADDRESS], [1, 15, 1], [1, 15, 2], [1, 31, 2]])

    def test_sees_what_is_dropped(self):
        asked = ask(put(0, 1, 0), put(128, 2, 9), stretch(0), drop(128, 9), stretch(0), drop(0, 0), stretch(0))
        self.assertEqual(asked[2::2], [[1, 8, 1], [1, TOP_ADDRESS, 1], [0, TOP_ADDRESS]])

    def test_sees_what_a_range_puts_and_drops(self):
        asked = ask(put(0, 1, 0), put(128, 2, 9), stretch(0), range_to(3, 5, 20), stretch(0), stretch(5), stretch(21))
        self.assertEqual(asked[2:], [[1, 8, 1], [5], [1, 4, 1], [1, 20, 3], [1, TOP_ADDRESS, 1]])

    def test_sees_a_later_open(self):
        asked = ask(put(0, 1, 0), stretch(0), OPEN, stretch(0), stretch(TOP_ADDRESS))
        self.assertEqual(asked[1:], [[1, TOP_ADDRESS, 1], [0], [0, TOP_ADDRESS], [0, TOP_ADDRESS]])

    def test_refusals_leave_it_as_it_was(self):
        asked = ask(put(124, 1, 16), stretch(16), put(129, 5, 16), drop(-1, 16), range_to(5, 17, 16), stretch(16))
        self.assertEqual(asked[1:], [[1, 31, 1], [-2], [-2], [-2], [1, 31, 1]])


class ManyBeginnings(unittest.TestCase):
    def test_full_table(self):
        calls = []
        wanted = []
        for to, first, last in FULL_RANGES:
            for address in (first, (first + last) // 2, last):
                calls.append(stretch(address))
                wanted.append([1, last, to])
            if first > 1:
                calls.append(stretch(first - 1))
                wanted.append([0, first - 1])
        self.assertEqual(ask(*FULL, *calls)[len(FULL):], wanted)

    def test_full_table_that_leads_to_one_place(self):
        # One beginning round all others, so that no address leads elsewhere.
        ranges = [range_to(7, first, last) for to, first, last in FULL_RANGES[:-1]]
        rest = [range_to(7, 200 * 2 ** 120 + 1, 200 * 2 ** 120 + 2 ** 100 - 2), put(128, 7, TOP_ADDRESS)]
        calls = ranges + [put(0, 7, 0)] + rest
        starts = [number * TOP_ADDRESS // 300 for number in range(301)]
        asked = ask(*calls, kth(0), *[stretch(start) for start in starts])
        self.assertEqual(asked[len(calls)], [16384, 0, 0, 7])
        self.assertEqual(asked[len(calls) + 1:], [[1, TOP_ADDRESS, 7]] * 301)

    def test_every_address_of_a_short_row_as_the_slow_table_answers(self):
        for seed in range(40):
            source = random.Random(seed)
            base = source.choice((0, 2 ** 64 - 32, 2 ** 127 - 32, TOP_ADDRESS - 63))
            puts = [put(source.randrange(120, 129), source.randrange(3), base + source.randrange(64))
                    for number in range(source.randrange(1, 40))]
            calls = [OPEN] + puts + [stretch(base + number) for number in range(64)]
            self.assertEqual(answers(joined(calls)), slow_answers(calls), seed)


if __name__ == "__main__":
    unittest.main()
