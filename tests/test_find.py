"""Point 3: find."""

import itertools
import unittest

from tests.helper import EDGE_ADDRESSES, EDGE_LENGTHS, TOP_ADDRESS, TOP_PLACE, ask, drop, find, put


class Find(unittest.TestCase):
    def test_nowhere_is_answered_alone(self):
        self.assertEqual(ask(find(0), find(TOP_ADDRESS)), [[-1], [-1]])

    def test_longest_counts_in_whatever_order_they_are_put(self):
        rows = [(0, 40), (1, 30), (64, 20), (128, 10)]
        for order in itertools.permutations(rows):
            puts = [put(length, to, 0) for length, to in order]
            asked = ask(*puts, find(0), find(1), find(2 ** 64), find(2 ** 127), find(TOP_ADDRESS))
            self.assertEqual(asked[4:], [[128, 10], [64, 20], [1, 30], [0, 40], [0, 40]], order)

    def test_longer_one_that_the_address_does_not_have_does_not_count(self):
        asked = ask(put(8, 1, 0), put(16, 2, 2 ** 112), find(0), find(2 ** 112), find(2 ** 113))
        self.assertEqual(asked[2:], [[8, 1], [16, 2], [8, 1]])

    def test_put_anew_does_not_make_a_shorter_one_count(self):
        asked = ask(put(10, 1, 0), put(20, 2, 0), put(10, 3, 0), find(0), drop(20, 0), find(0))
        self.assertEqual(asked[2:], [[1], [20, 2], [1], [10, 3]])

    def test_neighbours_of_a_beginning_lead_nowhere(self):
        for length in EDGE_LENGTHS[1:]:
            size = 2 ** (128 - length)
            for first in (0, size, TOP_ADDRESS + 1 - size):
                last = first + size - 1
                asked = ask(put(length, 6, first), find(first), find(last))
                self.assertEqual(asked[1:], [[length, 6], [length, 6]], (length, first))
                beside = [address for address in (first - 1, last + 1) if 0 <= address <= TOP_ADDRESS]
                asked = ask(put(length, 6, last), *[find(address) for address in beside])
                self.assertEqual(asked[1:], [[-1]] * len(beside), (length, first))

    def test_length_0_is_had_by_every_address(self):
        for handed in (0, TOP_ADDRESS):
            asked = ask(put(0, 6, handed), *[find(address) for address in EDGE_ADDRESSES])
            self.assertEqual(asked[1:], [[0, 6]] * len(EDGE_ADDRESSES))

    def test_length_128_is_had_by_one_address(self):
        for there in EDGE_ADDRESSES:
            asked = ask(put(128, 6, there), *[find(address) for address in EDGE_ADDRESSES])
            wanted = [[128, 6] if address == there else [-1] for address in EDGE_ADDRESSES]
            self.assertEqual(asked[1:], wanted)

    def test_the_edge_between_high_and_low(self):
        low_top = 2 ** 64 - 1
        asked = ask(put(64, 1, 0), put(64, 2, 2 ** 64), find(low_top), find(2 ** 64))
        self.assertEqual(asked[2:], [[64, 1], [64, 2]])

    def test_every_length_is_found(self):
        for length in range(129):
            for address in (0, TOP_ADDRESS, 5 * TOP_ADDRESS // 7):
                self.assertEqual(ask(put(length, 6, address), find(address)), [[0], [length, 6]])

    def test_places_0_and_the_highest(self):
        asked = ask(put(0, TOP_PLACE, 0), put(128, 0, 0), find(0), find(1))
        self.assertEqual(asked[2:], [[128, 0], [0, TOP_PLACE]])

    def test_changes_nothing(self):
        asked = ask(put(12, 6, 0), find(0), find(TOP_ADDRESS), find(0), drop(128, 0), drop(12, 0))
        self.assertEqual(asked, [[0], [12, 6], [-1], [12, 6], [0], [1]])


if __name__ == "__main__":
    unittest.main()
