"""fr_window (point 4)."""

import unittest

from tests.helper import FAMILY, LARGEST, behind_it, last_reply

# A line in which man m is born in year m and comes in 160 m years behind year 100.
LONG_LINE = [("start", 20, 8, 12, 100)] + [("son", man, man + 1) for man in range(12)]


class Window(unittest.TestCase):
    def told(self, ahead, cases):
        for case in cases:
            with self.subTest(case=case):
                self.assertEqual(last_reply(ahead + [("window",) + case[:3]]), case[3])

    def test_ordinary(self):
        # Sons of 0 come in in year 26, of 1 and 2 in 40, of 3 in 54, of 4 in 68.
        self.told(FAMILY, [
            (0, 10, 20, [6, 16]), (1, 10, 20, [20, 30]), (3, 5, 15, [39, 49]), (4, 0, 10, [58, 68]),
            (4, 12, 15, [53, 56]),
        ])

    def test_begins_just_behind_the_birth_of_the_father(self):
        self.told(FAMILY, [
            (0, 10, 24, [2, 16]), (0, 10, 25, [1, 16]), (0, 10, 26, [1, 16]), (0, 10, 27, [1, 16]),
            (0, 10, 2000, [1, 16]),
            (3, 0, 22, [32, 54]), (3, 0, 23, [31, 54]), (3, 0, 24, [31, 54]), (3, 0, 2000, [31, 54]),
        ])

    def test_single_year(self):
        self.told(FAMILY, [
            (0, 10, 10, [16, 16]), (0, 0, 0, [26, 26]), (0, 25, 25, [1, 1]), (0, 25, 2000, [1, 1]),
            (3, 23, 40, [31, 31]),
        ])

    def test_no_year(self):
        self.told(FAMILY, [
            (0, 26, 26, [-33]), (0, 26, 2000, [-33]), (0, 27, 27, [-33]), (0, 2000, 2000, [-33]),
            (3, 24, 24, [-33]), (3, 24, 2000, [-33]),
        ])

    def test_father_born_when_his_sons_come_in_or_later(self):
        # Man 2 is born in year 45, and sons of his come in in year 40.
        self.told(FAMILY, [(2, 0, 0, [-33]), (2, 0, 2000, [-33]), (2, 2000, 2000, [-33])])
        start = ("start", 7, 2, 5, 12)
        self.told([start, ("son", 0, 40)], [(1, 0, 2000, [-33])])
        self.told([start, ("son", 0, 39)], [(1, 0, 2000, [40, 40]), (1, 1, 2000, [-33])])

    def test_years_above_2000(self):
        # Sons of man 12 come in in year 2180.
        self.told(LONG_LINE, [
            (12, 0, 100, [2080, 2180]), (12, 170, 190, [1990, 2010]), (12, 180, 180, [2000, 2000]),
            (12, 179, 179, [2001, 2001]), (12, 0, 2000, [180, 2180]), (12, 2000, 2000, [180, 180]),
        ])

    def test_father_born_in_the_latest_year(self):
        # His sons come in in year 2340; none can be told, yet the years are.
        self.told(LONG_LINE + [("son", 12, 2000)], [
            (13, 0, 2000, [2001, 2340]), (13, 339, 2000, [2001, 2001]), (13, 340, 2000, [-33]),
            (13, 0, 0, [2340, 2340]),
        ])

    def test_told_also_when_there_is_no_room_for_a_son(self):
        full = LONG_LINE + [("son", man, man + 1) for man in range(12, 23)]
        self.told(full, [(23, 0, 2000, [1940, 3940]), (23, 0, 0, [3940, 3940]), (24, 0, 0, [-2])])

    def test_moves_with_the_sets_behind(self):
        self.told(FAMILY + [("behind", 3)], [(0, 10, 20, [13, 23]), (2, 0, 2000, [46, 54]), (4, 0, 10, [86, 96])])

    def test_sons_that_are_there_make_no_difference(self):
        self.told(FAMILY[:1], [(0, 10, 20, [6, 16])])


class Refused(unittest.TestCase):
    def refuse(self, cases, refusal):
        for case in cases:
            with self.subTest(case=case):
                self.assertEqual(last_reply(FAMILY + [("window",) + case]), [refusal])

    def test_not_there(self):
        self.refuse([(man, 10, 20) for man in (5, 6, 23, 24, LARGEST)], -2)

    def test_not_there_is_looked_at_first(self):
        self.refuse([(5, 20, 10), (5, 0, 2001), (5, 2001, 2001), (5, 2000, 2000), (LARGEST, LARGEST, LARGEST)], -2)

    def test_highest_less_than_lowest(self):
        self.refuse([(0, 1, 0), (0, 11, 10), (0, 2000, 1999), (0, 2001, 2000)], -22)
        self.refuse([(0, LARGEST, 0), (0, LARGEST, 2000)], -22)

    def test_highest_above_2000(self):
        self.refuse([(0, 0, 2001), (0, 10, 2001), (0, 2001, 2001), (0, 0, LARGEST), (0, LARGEST, LARGEST)], -22)

    def test_bounds_are_looked_at_ahead_of_the_years(self):
        self.refuse([(2, 1, 0), (2, 0, 2001), (0, 2000, 1999), (0, 2000, 2001)], -22)


class LeavesAll(unittest.TestCase):
    def test_nothing_is_told_or_changed(self):
        asked = [("window", 0, 10, 20), ("window", 2, 0, 0), ("window", 9, 0, 0), ("window", 0, 1, 0), ("state",)]
        self.assertEqual(behind_it(FAMILY, asked)[-1], [5, 7, 2, 5, 12, 4, 0])


if __name__ == "__main__":
    unittest.main()
