"""Point 1: open."""

import unittest

from longestroute.table import answers
from tests.helper import EDGE_ADDRESSES, OPEN, ask, drop, find, joined, put


class Open(unittest.TestCase):
    def test_answers_0(self):
        self.assertEqual(answers([1]), [1, 0])

    def test_answers_0_each_time(self):
        self.assertEqual(answers([1, 1, 1]), [1, 0, 1, 0, 1, 0])

    def test_answers_0_when_something_was_in_the_table(self):
        self.assertEqual(answers(joined([OPEN, put(8, 5, 0), OPEN])), [1, 0, 1, 0, 1, 0])

    def test_new_table_leads_nowhere(self):
        for address in EDGE_ADDRESSES:
            self.assertEqual(ask(find(address)), [[-1]])

    def test_later_open_leaves_nothing(self):
        asked = ask(put(0, 7, 0), put(128, 8, 5), OPEN, find(5), find(6), drop(0, 0), drop(128, 5))
        self.assertEqual(asked[2:], [[0], [-1], [-1], [0], [0]])

    def test_what_was_put_before_a_later_open_is_new_again(self):
        asked = ask(put(16, 7, 0), OPEN, put(16, 8, 0), find(0))
        self.assertEqual(asked, [[0], [0], [0], [16, 8]])


if __name__ == "__main__":
    unittest.main()
