"""Point 2: put and drop, and the refusal of a length ahead of the points."""

import unittest

from longestroute.table import Table
from tests.helper import (EDGE_ADDRESSES, EDGE_LENGTHS, MOST_BEGINNINGS, TOP_ADDRESS, TOP_PLACE, WRONG_LENGTHS,
                          ask, drop, find, put)


class Put(unittest.TestCase):
    def test_answers_0_for_a_new_one_and_1_for_a_known_one(self):
        for length in EDGE_LENGTHS:
            for address in EDGE_ADDRESSES:
                asked = ask(put(length, 3, address), put(length, 4, address), put(length, 4, address))
                self.assertEqual(asked, [[0], [1], [1]], (length, address))

    def test_leads_to_the_new_place(self):
        for length in EDGE_LENGTHS:
            for address in EDGE_ADDRESSES:
                asked = ask(put(length, 3, address), find(address), put(length, 9, address), find(address))
                self.assertEqual(asked, [[0], [length, 3], [1], [length, 9]], (length, address))

    def test_leads_to_the_new_place_where_that_is_lower(self):
        self.assertEqual(ask(put(4, TOP_PLACE, 0), put(4, 0, 0), find(0)), [[0], [1], [4, 0]])

    def test_bits_behind_the_length_are_not_looked_at(self):
        for length in EDGE_LENGTHS[:-1]:
            first = TOP_ADDRESS << (128 - length) & TOP_ADDRESS
            for other in (first + 1, first + 2 ** (127 - length), TOP_ADDRESS):
                asked = ask(put(length, 3, first), put(length, 4, other), find(first), drop(length, other), find(first))
                self.assertEqual(asked, [[0], [1], [length, 4], [1], [-1]], (length, other))

    def test_the_last_bit_within_the_length_is_looked_at(self):
        for length in EDGE_LENGTHS[1:]:
            other = 2 ** (128 - length)
            asked = ask(put(length, 3, 0), put(length, 4, other), find(0), find(other))
            self.assertEqual(asked, [[0], [0], [length, 3], [length, 4]], length)

    def test_high_and_low_do_not_change_places(self):
        asked = ask([2, 128, 3, 1, 2], [2, 128, 4, 2, 1], [4, 1, 2], [4, 2, 1], [3, 128, 1, 2], [4, 1, 2], [4, 2, 1])
        self.assertEqual(asked, [[0], [0], [128, 3], [128, 4], [1], [-1], [128, 4]])

    def test_same_bits_with_two_lengths_are_two_beginnings(self):
        for bits in (0, 2 ** 127):
            asked = ask(put(64, 3, bits), put(65, 4, bits), drop(65, bits), find(bits), drop(64, bits), find(bits))
            self.assertEqual(asked, [[0], [0], [1], [64, 3], [1], [-1]])

    def test_every_length_with_the_same_bits(self):
        for bits in (0, TOP_ADDRESS):
            puts = [put(length, 1000 + length, bits) for length in range(129)]
            downward = range(128, -1, -1)
            turns = [call for length in downward for call in (find(bits), drop(length, bits))]
            asked = ask(*puts, *turns, find(bits))
            wanted = [answer for length in downward for answer in ([length, 1000 + length], [1])]
            self.assertEqual(asked, [[0]] * 129 + wanted + [[-1]])


class Drop(unittest.TestCase):
    def test_answers_0_where_it_was_not(self):
        for length in EDGE_LENGTHS:
            for address in EDGE_ADDRESSES:
                self.assertEqual(ask(drop(length, address)), [[0]])

    def test_answers_1_and_it_is_gone(self):
        for length in EDGE_LENGTHS:
            for address in EDGE_ADDRESSES:
                asked = ask(put(length, 3, address), drop(length, address), find(address),
                            drop(length, address), put(length, 4, address), find(address))
                self.assertEqual(asked, [[0], [1], [-1], [0], [0], [length, 4]], (length, address))

    def test_one_that_leads_to_0_was_there(self):
        self.assertEqual(ask(put(8, 0, 0), drop(8, 0), drop(8, 0)), [[0], [1], [0]])

    def test_leaves_shorter_and_longer_ones(self):
        asked = ask(put(0, 1, 0), put(64, 2, 0), put(128, 3, 0), drop(64, 0), find(0), find(1), drop(1, 0), find(0))
        self.assertEqual(asked[3:], [[1], [128, 3], [0, 1], [0], [128, 3]])

    def test_leaves_others_of_the_same_length(self):
        asked = ask(put(65, 1, 0), put(65, 2, 2 ** 63), drop(65, 0), find(0), find(2 ** 63))
        self.assertEqual(asked[2:], [[1], [-1], [65, 2]])

    def test_does_not_drop_what_only_begins_alike(self):
        asked = ask(put(64, 1, 0), drop(63, 0), drop(65, 0), find(0))
        self.assertEqual(asked[1:], [[0], [0], [64, 1]])


class WrongLength(unittest.TestCase):
    def test_is_refused_in_an_empty_table(self):
        for length in WRONG_LENGTHS:
            for address in EDGE_ADDRESSES:
                asked = ask(put(length, 5, address), drop(length, address), find(address))
                self.assertEqual(asked, [[-2], [-2], [-1]], (length, address))

    def test_changes_nothing(self):
        puts = [put(length, 50 + length, address) for length in (0, 1, 127, 128) for address in (0, TOP_ADDRESS)]
        for length in WRONG_LENGTHS:
            for address in (0, TOP_ADDRESS):
                finds = [find(there) for there in EDGE_ADDRESSES]
                before = ask(*puts, *finds)[len(puts):]
                asked = ask(*puts, put(length, 5, address), drop(length, address), *finds)[len(puts):]
                self.assertEqual(asked, [[-2], [-2]] + before, (length, address))

    def test_is_refused_where_lengths_beside_it_are_taken(self):
        asked = ask(put(0, 1, 0), put(128, 2, 0), put(-1, 3, 0), put(129, 4, 0), drop(-1, 0), drop(129, 0),
                    drop(0, 0), drop(128, 0))
        self.assertEqual(asked, [[0], [0], [-2], [-2], [-2], [-2], [1], [1]])


class FullTable(unittest.TestCase):
    # 400 puts don't fill the table, so these tests ask the table itself; test_range.py fills it by ranges.

    def full_table(self):
        table = Table()
        for number in range(MOST_BEGINNINGS):
            self.assertEqual(table.put(14, number, number << 114), [0])
        return table

    def test_new_one_is_refused_and_nothing_has_changed(self):
        table = self.full_table()
        for length in (0, 13, 15, 128):
            self.assertEqual(table.put(length, 77, TOP_ADDRESS), [-1])
            self.assertEqual(table.drop(length, TOP_ADDRESS), [0])
        for number in range(MOST_BEGINNINGS):
            self.assertEqual(table.find(number << 114), [14, number])

    def test_known_one_is_put(self):
        table = self.full_table()
        self.assertEqual(table.put(14, 99, TOP_ADDRESS), [1])
        self.assertEqual(table.find(TOP_ADDRESS), [14, 99])
        self.assertEqual(table.put(14, 98, 0), [1])
        self.assertEqual(table.find(0), [14, 98])

    def test_wrong_length_comes_first(self):
        table = self.full_table()
        for length in WRONG_LENGTHS:
            self.assertEqual(table.put(length, 77, 0), [-2])
            self.assertEqual(table.drop(length, 0), [-2])

    def test_after_a_drop_one_more_is_put(self):
        table = self.full_table()
        self.assertEqual(table.drop(14, 0), [1])
        self.assertEqual(table.put(128, 5, 0), [0])
        self.assertEqual(table.put(14, 6, 0), [-1])
        self.assertEqual(table.find(0), [128, 5])

    def test_399_are_put_by_one_line(self):
        puts = [put(128, number, number) for number in range(399)]
        self.assertEqual(ask(*puts), [[0]] * 399)


if __name__ == "__main__":
    unittest.main()
