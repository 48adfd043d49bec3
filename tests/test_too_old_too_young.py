"""fr_too_old, fr_too_young (point 4)."""

import unittest

from tests.helper import FAMILY, LARGEST, behind_it, last_reply, replies


class TooOld(unittest.TestCase):
    # FAMILY's ages as they come in: 12, 16, 19 below 0, 10, 10.

    def test_who_is(self):
        ages = [
            (0, [4, 27]), (9, [4, 27]), (10, [2, 3]), (11, [2, 3]), (12, [1, 2]),
            (15, [1, 2]), (16, [0, 0]), (17, [0, 0]), (1999, [0, 0]),
        ]
        for age, told in ages:
            with self.subTest(age=age):
                self.assertEqual(last_reply(FAMILY + [("too_old", age)]), told)

    def test_highest_age(self):
        self.assertEqual(last_reply(FAMILY + [("too_old", 2000)]), [0, 0])
        for age in (2001, 2002, LARGEST):
            self.assertEqual(last_reply(FAMILY + [("too_old", age)]), [-22])

    def test_older_than_the_highest_age(self):
        # The gap is 160 years; man 12 comes in in year 2020.
        line = [("start", 20, 8, 12, 100)] + [("son", man, man + 1) for man in range(11)]
        for year, told in [(19, [1, 4096]), (20, [0, 0]), (21, [0, 0])]:
            with self.subTest(year=year):
                self.assertEqual(last_reply(line + [("son", 11, year), ("too_old", 2000)]), told)

    def test_age_0_is_not_older_than_0(self):
        told = replies([("start", 7, 2, 5, 0), ("too_old", 0), ("start", 7, 2, 5, 1), ("too_old", 0)])
        self.assertEqual(told, [[0], [0, 0], [1], [1, 1]])

    def test_below_0_is_never_too_old(self):
        self.assertEqual(last_reply([("start", 7, 2, 5, 0), ("son", 0, 2000), ("too_old", 0)]), [0, 0])

    def test_everybody(self):
        sons = [("start", 7, 2, 5, 12)] + [("son", 0, 1)] * 23
        self.assertEqual(last_reply(sons + [("too_old", 11)]), [24, 16777215])

    def test_moves_with_the_sets_behind(self):
        # Behind 3 the ages are 12, 23, 12 below 0, 24, 31.
        self.assertEqual(behind_it(FAMILY, [("behind", 3), ("too_old", 23), ("too_old", 12)]), [[2], [2, 24], [3, 26]])

    def test_dropped_man_is_not_told(self):
        self.assertEqual(last_reply(FAMILY + [("drop",), ("too_old", 9)]), [3, 11])


class TooYoung(unittest.TestCase):
    def test_who_is(self):
        ages = [
            (0, [1, 4]), (1, [1, 4]), (10, [1, 4]), (11, [3, 28]), (12, [3, 28]),
            (13, [4, 29]), (16, [4, 29]), (17, [5, 31]), (1999, [5, 31]),
        ]
        for age, told in ages:
            with self.subTest(age=age):
                self.assertEqual(last_reply(FAMILY + [("too_young", age)]), told)

    def test_highest_age(self):
        self.assertEqual(last_reply(FAMILY + [("too_young", 2000)]), [5, 31])
        for age in (2001, 2002, LARGEST):
            self.assertEqual(last_reply(FAMILY + [("too_young", age)]), [-22])

    def test_older_than_the_highest_age(self):
        line = [("start", 20, 8, 12, 100)] + [("son", man, man + 1) for man in range(11)]
        for year, told in [(19, [12, 4095]), (20, [12, 4095]), (21, [13, 8191])]:
            with self.subTest(year=year):
                self.assertEqual(last_reply(line + [("son", 11, year), ("too_young", 2000)]), told)

    def test_around_0(self):
        # The son's set comes in in year 26.
        for year, told in [(25, [0, 0]), (26, [0, 0]), (27, [1, 2])]:
            with self.subTest(year=year):
                self.assertEqual(last_reply([("start", 7, 2, 5, 12), ("son", 0, year), ("too_young", 0)]), told)

    def test_age_0_is_younger_than_1(self):
        told = replies([("start", 7, 2, 5, 0), ("too_young", 0), ("too_young", 1)])
        self.assertEqual(told, [[0], [0, 0], [1, 1]])

    def test_everybody(self):
        sons = [("start", 7, 2, 5, 12)] + [("son", 0, 40)] * 23
        self.assertEqual(last_reply(sons + [("too_young", 13)]), [24, 16777215])

    def test_moves_with_the_sets_behind(self):
        told = behind_it(FAMILY, [("behind", 3), ("too_young", 12), ("too_young", 24)])
        self.assertEqual(told, [[2], [1, 4], [3, 7]])

    def test_dropped_man_is_not_told(self):
        self.assertEqual(last_reply(FAMILY + [("drop",), ("too_young", 11)]), [2, 12])


if __name__ == "__main__":
    unittest.main()
