"""fr_in_step (point 4)."""

import unittest

from tests.helper import FAMILY, LARGEST, last_reply, probes, replies


class InStep(unittest.TestCase):
    # FAMILY's ages as they come in: 12, 16, 19 below 0, 10, 10.

    def test_who_is(self):
        self.assertEqual(last_reply(FAMILY + [("in_step", 10, 12)]), [3, 25])

    def test_both_ends_count(self):
        for low, high, told in [
            (10, 10, [2, 24]), (10, 11, [2, 24]), (11, 12, [1, 1]), (12, 12, [1, 1]), (11, 11, [0, 0]),
            (12, 15, [1, 1]), (12, 16, [2, 3]), (13, 16, [1, 2]), (16, 16, [1, 2]), (17, 2000, [0, 0]),
            (0, 9, [0, 0]), (0, 10, [2, 24]),
        ]:
            with self.subTest(low=low, high=high):
                self.assertEqual(last_reply(FAMILY + [("in_step", low, high)]), told)

    def test_below_0_is_never_in_step(self):
        self.assertEqual(last_reply(FAMILY + [("in_step", 0, 2000)]), [4, 27])
        self.assertEqual(last_reply(FAMILY + [("in_step", 19, 19)]), [0, 0])

    def test_age_0(self):
        told = replies([("start", 7, 2, 5, 0), ("in_step", 0, 0), ("in_step", 1, 1)])
        self.assertEqual(told[1:], [[1, 1], [0, 0]])

    def test_highest_less_than_lowest(self):
        for low, high in [(1, 0), (11, 10), (2000, 1999), (2001, 2000), (LARGEST, 0), (LARGEST, 2000)]:
            with self.subTest(low=low, high=high):
                self.assertEqual(last_reply(FAMILY + [("in_step", low, high)]), [-22])

    def test_highest_above_2000(self):
        self.assertEqual(last_reply(FAMILY + [("in_step", 2000, 2000)]), [0, 0])
        for low, high in [(0, 2001), (2001, 2001), (0, LARGEST), (LARGEST, LARGEST)]:
            with self.subTest(low=low, high=high):
                self.assertEqual(last_reply(FAMILY + [("in_step", low, high)]), [-22])

    def test_older_than_2000_is_left_out(self):
        # The gap is 160 years; man 12 comes in in year 2020, man 13 in 2180.
        line = [("start", 20, 8, 12, 100)] + [("son", man, man + 1) for man in range(11)]
        for year, told in [(20, [1, 4096]), (19, [0, 0]), (21, [0, 0])]:
            calls = line + [("son", 11, year), ("in_step", 2000, 2000)]
            with self.subTest(year=year):
                self.assertEqual(last_reply(calls), told)

    def test_everybody(self):
        sons = [("start", 7, 2, 5, 12)] + [("son", 0, man + 1) for man in range(23)]
        self.assertEqual(last_reply(sons + [("in_step", 0, 2000)]), [24, 16777215])

    def test_dropped_man_is_not_told(self):
        self.assertEqual(last_reply(FAMILY + [("drop",), ("in_step", 10, 12)]), [2, 9])

    def test_refused_leaves_all_as_it_was(self):
        asked = probes()
        before = replies(FAMILY + asked)[-len(asked):]
        for call in [("in_step", 1, 0), ("in_step", 0, 2001)]:
            self.assertEqual(replies(FAMILY + [call] + asked)[-len(asked):], before)


if __name__ == "__main__":
    unittest.main()
