"""Point 5: range, and a full table that ranges have filled."""

import random
import unittest

from longestroute.table import answers
from tests.helper import (EDGE_ADDRESSES, FULL, FULL_ANSWERED, FULL_RANGES, MOST_BEGINNINGS, OPEN, TOP_ADDRESS,
                          TOP_PLACE, WRONG_LENGTHS, ask, drop, find, full_listed, joined, kth, listed, put,
                          range_to, slow_answers, stretch)

# Rows of 16 addresses: at both ends of all, across the two halves, across the first bit, and none of these.
BASES = (0, TOP_ADDRESS - 15, 2 ** 64 - 8, 2 ** 127 - 8, 2 ** 100 + 3)


def fewest(first, last):
    """How many beginnings are needed at least, found by trying each one that fits."""
    needed = {last + 1: 0}
    for address in range(last, first - 1, -1):
        sizes = [2 ** bits for bits in range(5) if address % 2 ** bits == 0 and address + 2 ** bits - 1 <= last]
        needed[address] = min(1 + needed[address + size] for size in sizes)
    return needed[first]


def short_ranges():
    return [(base + one, base + other) for base in BASES for one in range(16) for other in range(one, 16)]


class WhatIsPut(unittest.TestCase):
    def test_one_address_is_one_beginning(self):
        for address in EDGE_ADDRESSES:
            self.assertEqual(ask(range_to(5, address, address), kth(0)), [[1], [1, address, 128, 5]], address)

    def test_all_addresses_are_one_beginning_of_length_0(self):
        self.assertEqual(ask(range_to(5, 0, TOP_ADDRESS), kth(0)), [[1], [1, 0, 0, 5]])

    def test_every_beginning_by_itself(self):
        for length in range(129):
            size = 2 ** (128 - length)
            for first in (0, TOP_ADDRESS + 1 - size):
                asked = ask(range_to(5, first, first + size - 1), kth(0))
                self.assertEqual(asked, [[1], [1, first, length, 5]], (length, first))

    def test_all_but_the_first_and_the_last_address_are_254(self):
        call = range_to(5, 1, TOP_ADDRESS - 1)
        self.assertEqual(ask(call), [[254]])
        rising = [(2 ** bits, 128 - bits, 5) for bits in range(127)]
        falling = [(2 ** 128 - 2 ** (bits + 1), 128 - bits, 5) for bits in range(126, -1, -1)]
        self.assertEqual(listed(call), rising + falling)

    def test_all_but_the_first_or_the_last_address_are_128(self):
        self.assertEqual(listed(range_to(5, 1, TOP_ADDRESS)), [(2 ** bits, 128 - bits, 5) for bits in range(128)])
        self.assertEqual(listed(range_to(5, 0, TOP_ADDRESS - 1)),
                         [(2 ** 128 - 2 ** (bits + 1), 128 - bits, 5) for bits in range(127, -1, -1)])

    def test_first_and_last_in_one_half(self):
        self.assertEqual(listed(range_to(5, 3, 12)), [(3, 128, 5), (4, 126, 5), (8, 126, 5), (12, 128, 5)])
        base = 2 ** 64 * 9
        self.assertEqual(listed(range_to(5, base + 3, base + 12)),
                         [(base + 3, 128, 5), (base + 4, 126, 5), (base + 8, 126, 5), (base + 12, 128, 5)])

    def test_first_and_last_in_two_halves(self):
        middle = 2 ** 127
        self.assertEqual(listed(range_to(5, middle - 1, middle)), [(middle - 1, 128, 5), (middle, 128, 5)])
        low_top = 2 ** 64 - 1
        self.assertEqual(listed(range_to(5, low_top - 1, low_top + 3)),
                         [(low_top - 1, 127, 5), (low_top + 1, 127, 5), (low_top + 3, 128, 5)])

    def test_high_and_low_do_not_change_places(self):
        self.assertEqual(listed([6, 5, 1, 2, 1, 3]), [(2 ** 64 + 2, 127, 5)])
        rising = [(2 * 2 ** 64 + 2 ** bits, 128 - bits, 5) for bits in range(64)]
        self.assertEqual(listed([6, 5, 2, 1, 3, 0]), rising + [(3 * 2 ** 64, 128, 5)])

    def test_the_fewest_and_none_has_another(self):
        for first, last in short_ranges():
            rows = listed(range_to(5, first, last))
            self.assertEqual(ask(range_to(5, first, last)), [[len(rows)]])
            self.assertEqual(len(rows), fewest(first, last), (first, last))
            at = first
            for bits, length, to in rows:
                self.assertEqual((bits, to), (at, 5))
                self.assertEqual(bits % 2 ** (128 - length), 0)
                at += 2 ** (128 - length)
            self.assertEqual(at, last + 1)

    def test_places_0_and_the_highest(self):
        for to in (0, TOP_PLACE):
            self.assertEqual(ask(range_to(to, 4, 6), find(3), find(4), find(6), find(7)),
                             [[2], [-1], [127, to], [128, to], [-1]])


class WhereAddressesLead(unittest.TestCase):
    def test_nowhere_beside_the_range(self):
        for first, last in short_ranges():
            beside = [address for address in (first - 1, last + 1) if 0 <= address <= TOP_ADDRESS]
            asked = ask(range_to(5, first, last), stretch(first), *[find(address) for address in beside])
            self.assertEqual(asked[1:], [[1, last, 5]] + [[-1]] * len(beside), (first, last))

    def test_others_lead_where_they_did(self):
        for seed in range(60):
            source = random.Random(seed)
            base = source.choice((0, 2 ** 64 - 32, 2 ** 127 - 32, TOP_ADDRESS - 63))
            puts = [put(source.randrange(118, 129), source.randrange(1, 6), base + source.randrange(64))
                    for number in range(source.randrange(30))]
            one, other = sorted((source.randrange(64), source.randrange(64)))
            finds = [find(base + number) for number in range(64)]
            before = ask(*puts, *finds)[len(puts):]
            after = ask(*puts, range_to(9, base + one, base + other), *finds)[len(puts) + 1:]
            for number in range(64):
                if one <= number <= other:
                    self.assertEqual(after[number][1:], [9], (seed, number))
                else:
                    self.assertEqual(after[number], before[number], (seed, number))

    def test_just_ahead_and_just_behind(self):
        asked = ask(put(0, 1, 0), put(127, 2, 4), put(127, 3, 10), range_to(9, 5, 10),
                    find(3), find(4), find(5), find(10), find(11), find(12))
        self.assertEqual(asked[4:], [[0, 1], [127, 2], [128, 9], [128, 9], [127, 3], [0, 1]])


class WhatIsDropped(unittest.TestCase):
    def test_longer_ones_within(self):
        puts = [put(128, 1, 16), put(127, 2, 20), put(128, 3, 31), put(125, 4, 24)]
        self.assertEqual(listed(*puts, range_to(9, 16, 31)), [(16, 124, 9)])
        self.assertEqual(ask(*puts, range_to(9, 16, 31), drop(128, 16), drop(127, 20), drop(128, 31), drop(125, 24),
                             drop(124, 16))[4:], [[1], [0], [0], [0], [0], [1]])

    def test_one_of_the_same_leads_to_the_new_place(self):
        self.assertEqual(listed(put(124, 1, 16), range_to(9, 16, 31)), [(16, 124, 9)])
        self.assertEqual(ask(put(124, 1, 16), range_to(9, 16, 31), put(124, 3, 16))[1:], [[1], [1]])

    def test_those_that_were_there_are_counted_too(self):
        asked = ask(range_to(1, 1, 30), range_to(2, 1, 30), range_to(3, 1, 30), kth(0))
        self.assertEqual(asked, [[8], [8], [8], [8, 1, 128, 3]])

    def test_shorter_ones_around_stay(self):
        puts = [put(length, length, 16) for length in range(124)]
        self.assertEqual(listed(*puts, range_to(9, 16, 31)),
                         [(0, length, length) for length in range(124)] + [(16, 124, 9)])

    def test_shorter_ones_that_begin_at_first_stay(self):
        puts = [put(123, 1, 0), put(124, 2, 0), put(125, 3, 0), put(128, 4, 0)]
        self.assertEqual(listed(*puts, range_to(9, 0, 7)), [(0, 123, 1), (0, 124, 2), (0, 125, 9)])

    def test_shorter_ones_that_begin_within_and_end_behind_stay(self):
        puts = [put(125, 1, 8), put(126, 2, 8), put(127, 3, 10), put(128, 4, 11)]
        self.assertEqual(listed(*puts, range_to(9, 6, 10)),
                         [(6, 127, 9), (8, 125, 1), (8, 126, 2), (8, 127, 9), (10, 127, 3), (10, 128, 9), (11, 128, 4)])

    def test_shorter_ones_that_end_at_last_stay(self):
        puts = [put(123, 1, 0), put(124, 2, 16), put(125, 3, 24), put(128, 4, 31)]
        self.assertEqual(listed(*puts, range_to(9, 24, 31)), [(0, 123, 1), (16, 124, 2), (24, 125, 9)])

    def test_longer_ones_just_ahead_and_just_behind_stay(self):
        puts = [put(128, 1, 15), put(128, 2, 16), put(128, 3, 31), put(128, 4, 32)]
        self.assertEqual(listed(*puts, range_to(9, 16, 31)), [(15, 128, 1), (16, 124, 9), (32, 128, 4)])

    def test_same_place_is_put_all_the_same(self):
        self.assertEqual(listed(put(0, 9, 0), range_to(9, 16, 31)), [(0, 0, 9), (16, 124, 9)])

    def test_all_addresses_leave_one(self):
        self.assertEqual(listed(range_to(1, 1, TOP_ADDRESS - 1), put(0, 2, 0), range_to(9, 0, TOP_ADDRESS)), [(0, 0, 9)])


class LastBeforeFirst(unittest.TestCase):
    def test_is_refused(self):
        for last, first in zip(EDGE_ADDRESSES, EDGE_ADDRESSES[1:]):
            self.assertEqual(ask(range_to(5, first, last), kth(0)), [[-2], [-1]], (first, last))
            self.assertNotEqual(ask(range_to(5, last, first)), [[-2]], (last, first))
        self.assertEqual(ask(range_to(5, 1, 0), range_to(5, TOP_ADDRESS, TOP_ADDRESS - 1), kth(0)), [[-2], [-2], [-1]])

    def test_high_counts_before_low(self):
        self.assertEqual(ask([6, 5, 1, 0, 0, 2 ** 64 - 1]), [[-2]])
        self.assertEqual(ask([6, 5, 0, 2 ** 64 - 1, 1, 0]), [[2]])

    def test_changes_nothing(self):
        puts = [put(124, 1, 16), put(128, 2, 20)]
        self.assertEqual(listed(*puts, range_to(5, 31, 16)), listed(*puts))

    def test_comes_before_the_full_table(self):
        asked = ask(*FULL, range_to(5, 1, 0), range_to(5, TOP_ADDRESS, 0), kth(0))
        self.assertEqual(asked[len(FULL):], [[-2], [-2], [MOST_BEGINNINGS, 1, 128, 100]])


class FullTable(unittest.TestCase):
    # FULL's first range is from 1 on, so the first beginnings are 1, then 2 to 3, 4 to 7, 8 to 15 and so on.

    def after_full(self, *calls):
        return ask(*FULL, *calls)[len(FULL):]

    def probes(self):
        """Calls that tell very much of the table and change nothing."""
        finds = [find(address) for address in list(range(20)) + list(EDGE_ADDRESSES)]
        stretches = [stretch(number << 118) for number in range(40)]
        lists = [kth(k) for k in list(range(20)) + [number * 16383 // 200 for number in range(201)] + [MOST_BEGINNINGS]]
        return finds + stretches + lists

    def assert_refused(self, *calls):
        probes = self.probes()
        asked = self.after_full(*calls, *probes)
        self.assertEqual(asked[:len(calls)], [[-1]] * len(calls))
        self.assertEqual(asked[len(calls):], self.after_full(*probes))

    def test_exactly_16384_is_no_refusal(self):
        self.assertEqual(ask(*FULL), FULL_ANSWERED)
        self.assertEqual(self.after_full(kth(0), kth(16383), kth(16384))[0], [16384, 1, 128, 100])

    def test_one_more_than_16384_is_refused(self):
        calls = FULL[:-1] + [put(128, 7, TOP_ADDRESS)]
        asked = ask(*calls, FULL[-1], kth(0), kth(16184), kth(16185), find(68 * 2 ** 120 + 1), find(TOP_ADDRESS),
                    drop(128, TOP_ADDRESS), FULL[-1], kth(0))
        self.assertEqual(asked[len(calls):], [[-1], [16185, 1, 128, 100], [16185, TOP_ADDRESS, 128, 7], [-1], [-1],
                                              [128, 7], [1], [200], [16384, 1, 128, 100]])

    def test_everything_is_listed(self):
        wanted = full_listed()
        self.assertEqual(len(wanted), MOST_BEGINNINGS)
        for start in range(0, MOST_BEGINNINGS, 330):
            asked = self.after_full(*[kth(k) for k in range(start, min(start + 330, MOST_BEGINNINGS))])
            self.assertEqual(asked, [[MOST_BEGINNINGS] + row for row in wanted[start:start + 330]])

    def test_range_of_new_ones_is_refused_and_nothing_has_changed(self):
        self.assert_refused(range_to(5, 0, 0))
        self.assert_refused(range_to(5, TOP_ADDRESS, TOP_ADDRESS), range_to(5, 2 ** 127, TOP_ADDRESS))
        self.assert_refused(range_to(5, 200 << 120, (201 << 120) + 77))

    def test_range_that_drops_too_few_is_refused_and_nothing_has_changed(self):
        # 1 is known, 2 is new.
        self.assert_refused(range_to(5, 1, 2))
        # 0 to 1 and 2 are new, 1 is dropped.
        self.assert_refused(range_to(5, 0, 2))
        # 0 to 3, 4 to 5 and 6 are new, 1 and 2 to 3 are dropped.
        self.assert_refused(range_to(5, 0, 6))

    def test_range_that_drops_as_many_as_it_puts(self):
        asked = self.after_full(range_to(5, 0, 1), kth(0), kth(1), find(1), find(2))
        self.assertEqual(asked, [[1], [16384, 0, 127, 5], [16384, 2, 127, 100], [127, 5], [127, 100]])
        asked = self.after_full(range_to(5, 0, 5), kth(0), kth(1), kth(2), kth(3), find(5), find(6))
        self.assertEqual(asked, [[2], [16384, 0, 126, 5], [16384, 4, 126, 100], [16384, 4, 127, 5],
                                 [16384, 8, 125, 100], [127, 5], [126, 100]])

    def test_range_that_drops_more_than_it_puts(self):
        asked = self.after_full(range_to(5, 0, 3), kth(0), kth(1), put(0, 6, 0), put(1, 6, 0), kth(0))
        self.assertEqual(asked, [[1], [16383, 0, 126, 5], [16383, 4, 126, 100], [0], [-1], [16384, 0, 0, 6]])

    def test_range_over_a_whole_block(self):
        asked = self.after_full(range_to(5, 0, 2 ** 120 - 1), kth(0), kth(1), range_to(6, 2, 2 ** 119 - 1), kth(0))
        self.assertEqual(asked, [[1], [16147, 0, 8, 5], [16147, 2 ** 120 + 1, 128, 101], [118], [16265, 0, 8, 5]])

    def test_range_over_all(self):
        self.assertEqual(self.after_full(range_to(5, 0, TOP_ADDRESS), kth(0), kth(1)), [[1], [1, 0, 0, 5], [-1]])
        asked = self.after_full(range_to(5, 1, TOP_ADDRESS - 1), kth(0), kth(253), kth(254))
        self.assertEqual(asked, [[254], [254, 1, 128, 5], [254, TOP_ADDRESS - 1, 128, 5], [-1]])

    def test_range_that_was_put_before_is_put_anew(self):
        to, first, last = FULL_RANGES[30]
        asked = self.after_full(range_to(5, first, last), stretch(first), kth(0), kth(30 * 238), stretch(FULL_RANGES[29][1]))
        self.assertEqual(asked, [[238], [1, last, 5], [16384, 1, 128, 100], [16384, first, 128, 5],
                                 [1, FULL_RANGES[29][2], 129]])

    def test_put_of_a_new_one_is_refused_and_nothing_has_changed(self):
        self.assert_refused(*[put(length, 5, TOP_ADDRESS) for length in (0, 1, 8, 127, 128)], put(128, 5, 0),
                            put(128, 5, 2), put(126, 5, 2))

    def test_put_of_a_known_one_is_no_refusal(self):
        asked = self.after_full(put(128, 5, 1), put(127, 6, 2), put(127, 7, 3), find(1), find(2), kth(0), kth(1))
        self.assertEqual(asked, [[1], [1], [1], [128, 5], [127, 7], [16384, 1, 128, 5], [16384, 2, 127, 7]])

    def test_wrong_length_comes_before_the_full_table(self):
        calls = [call for length in WRONG_LENGTHS for call in (put(length, 5, 1), drop(length, 1))]
        self.assertEqual(self.after_full(*calls, kth(0)), [[-2]] * 8 + [[16384, 1, 128, 100]])

    def test_after_a_drop_there_is_room_for_one(self):
        asked = self.after_full(drop(128, 1), put(0, 5, 0), put(128, 5, 1), find(1), kth(0),
                                drop(0, 0), range_to(5, 0, 2), range_to(5, 1, 1), kth(0))
        self.assertEqual(asked, [[1], [0], [-1], [0, 5], [16384, 0, 0, 5], [1], [-1], [1], [16384, 1, 128, 5]])

    def test_after_open_there_is_room_for_all(self):
        calls = FULL + [OPEN] + FULL
        asked = ask(*calls, kth(0), put(0, 5, 0))
        self.assertEqual(asked, FULL_ANSWERED + [[0]] + FULL_ANSWERED + [[16384, 1, 128, 100], [-1]])


class AsTheSlowTable(unittest.TestCase):
    def test_ranges_between_edges(self):
        for seed in range(30):
            source = random.Random(seed)
            calls = [OPEN]
            for number in range(60):
                near = [source.choice(EDGE_ADDRESSES) ^ (1 << source.randrange(128)) for end in range(2)]
                if source.random() < 0.8:
                    near.sort()
                calls.append(range_to(source.randrange(4), *near))
                calls.append(source.choice((stretch, find))(source.choice(near)))
                calls.append(kth(source.randrange(300)))
            self.assertEqual(answers(joined(calls)), slow_answers(calls), seed)


if __name__ == "__main__":
    unittest.main()
