"""What is asked of one man: fr_told (point 2), and all of point 3."""

import unittest

from tests.helper import BY_MAN_ALONE, FAMILY, LARGEST, behind_it, last_reply, replies


class EachMan(unittest.TestCase):
    def all_men(self, name):
        return replies(FAMILY + [(name, man) for man in range(5)])[len(FAMILY):]

    def test_enters(self):
        self.assertEqual(self.all_men("enters"), [[12, 0], [26, 2], [26, 2], [40, 4], [54, 6]])

    def test_age(self):
        self.assertEqual(self.all_men("age"), [[0, 0, 12], [0, 0, 16], [0, 1, 19], [0, 0, 10], [0, 0, 10]])

    def test_drift(self):
        self.assertEqual(self.all_men("drift"), [[0, 0, 0], [1, 0, 4], [1, 1, 31], [2, 1, 2], [3, 1, 2]])

    def test_fathers(self):
        self.assertEqual(self.all_men("fathers"), [[-33], [10], [45], [20], [14]])

    def test_line(self):
        self.assertEqual(self.all_men("line"), [[1, 1], [2, 3], [2, 5], [3, 11], [4, 27]])

    def test_born_into(self):
        self.assertEqual(self.all_men("born_into"), [[-33], [-33], [2], [-33], [-33]])

    def test_told(self):
        self.assertEqual(self.all_men("told"), [[0, 0, 0], [10, 0, 1], [45, 0, 1], [30, 1, 2], [44, 3, 3]])

    def test_sons(self):
        self.assertEqual(self.all_men("sons"), [[2, 6], [1, 8], [0, 0], [1, 16], [0, 0]])

    def test_mean(self):
        self.assertEqual(self.all_men("mean"), [[-33], [10, 0, 1], [45, 0, 1], [15, 0, 2], [14, 2, 3]])


class NotThere(unittest.TestCase):
    def test_by_man_alone(self):
        for name in BY_MAN_ALONE:
            for man in (5, 6, 23, 24, 32, LARGEST):
                with self.subTest(name=name, man=man):
                    self.assertEqual(last_reply(FAMILY + [(name, man)]), [-2])

    def test_grade(self):
        for man in (5, 24, LARGEST):
            self.assertEqual(last_reply(FAMILY + [("grade", man, 30)]), [-2])

    def test_ahead_of_the_other_refusals_of_grade(self):
        for year in (0, 20000, 20001, LARGEST):
            self.assertEqual(last_reply(FAMILY + [("grade", 5, year)]), [-2])


class Age(unittest.TestCase):
    def test_around_0(self):
        # The son's set comes in in year 26.
        for year, told in [(25, [0, 0, 1]), (26, [0, 0, 0]), (27, [0, 1, 1]), (2000, [0, 1, 1974])]:
            with self.subTest(year=year):
                self.assertEqual(last_reply([("start", 7, 2, 5, 12), ("son", 0, year), ("age", 1)]), told)

    def test_lowest_and_highest(self):
        self.assertEqual(last_reply([("start", 1, 1, 1, 0), ("son", 0, 2000), ("age", 1)]), [0, 1, 1999])
        line = [("start", 20, 8, 12, 100)] + [("son", man, man + 1) for man in range(23)]
        self.assertEqual(replies(line + [("age", 23), ("enters", 23)])[-2:], [[0, 0, 3757], [3780, 184]])

    def test_first_man_at_0(self):
        self.assertEqual(last_reply([("start", 7, 2, 5, 0), ("age", 0)]), [0, 0, 0])


class Drift(unittest.TestCase):
    def test_around_0(self):
        # The gap is 14 years.
        for year, told in [(13, [1, 0, 1]), (14, [1, 0, 0]), (15, [1, 1, 1])]:
            with self.subTest(year=year):
                self.assertEqual(last_reply([("start", 7, 2, 5, 12), ("son", 0, year), ("drift", 1)]), told)

    def test_the_first_year_makes_no_difference(self):
        for first in (0, 1, 100):
            calls = [("start", 7, 2, 5, first), ("son", 0, 45), ("drift", 1)]
            self.assertEqual(last_reply(calls), [1, 1, 31])

    def test_age_above_0_with_drift_below(self):
        told = replies([("start", 7, 2, 5, 100), ("son", 0, 45), ("age", 1), ("drift", 1)])
        self.assertEqual(told[-2:], [[0, 0, 69], [1, 1, 31]])


class Grade(unittest.TestCase):
    def test_from_ahead_of_the_first_year_to_behind_the_last(self):
        # Man 1's set comes in in year 26 and has 5 grades of 7 years.
        years = [
            (0, [-33]), (18, [-33]), (19, [-33]), (25, [-33]),
            (26, [0]), (27, [0]), (32, [0]), (33, [1]), (39, [1]), (40, [2]), (46, [2]),
            (47, [3]), (53, [3]), (54, [4]), (60, [4]),
            (61, [-33]), (62, [-33]), (68, [-33]), (20000, [-33]),
        ]
        told = replies(FAMILY + [("grade", 1, year) for year, ignored in years])
        self.assertEqual(told[len(FAMILY):], [answer for ignored, answer in years])

    def test_brothers_alike_and_first_man_by_himself(self):
        pairs = [(2, 33), (0, 11), (0, 12), (0, 46), (0, 47)]
        told = behind_it(FAMILY, [("grade",) + pair for pair in pairs])
        self.assertEqual(told, [[1], [-33], [0], [4], [-33]])

    def test_one_grade_of_one_year(self):
        told = replies([("start", 1, 1, 1, 3)] + [("grade", 0, year) for year in range(6)])
        self.assertEqual(told[1:], [[-33], [-33], [-33], [0], [-33], [-33]])

    def test_latest_year_that_can_be_asked(self):
        self.assertEqual(last_reply(FAMILY + [("grade", 1, 20000)]), [-33])
        self.assertEqual(last_reply(FAMILY + [("grade", 1, 20001)]), [-22])
        self.assertEqual(last_reply(FAMILY + [("grade", 1, LARGEST)]), [-22])

    def test_year_above_2000(self):
        line = [("start", 20, 8, 12, 100)] + [("son", man, man + 1) for man in range(23)]
        asked = [("grade", 23, year) for year in (3779, 3780, 4019, 4020)]
        self.assertEqual(replies(line + asked)[-4:], [[-33], [0], [11], [-33]])

    def test_moves_with_the_sets_behind(self):
        told = replies(FAMILY + [("behind", 3), ("grade", 1, 32), ("grade", 1, 33), ("grade", 1, 67), ("grade", 1, 68)])
        self.assertEqual(told[-4:], [[-33], [0], [4], [-33]])


class BornInto(unittest.TestCase):
    def test_from_ahead_of_the_first_year_to_behind_the_last(self):
        for year, told in [(25, [-33]), (26, [0]), (32, [0]), (33, [1]), (60, [4]), (61, [-33]), (2000, [-33])]:
            with self.subTest(year=year):
                calls = [("start", 7, 2, 5, 12), ("son", 0, year), ("born_into", 1)]
                self.assertEqual(last_reply(calls), told)

    def test_first_man(self):
        self.assertEqual(last_reply([("start", 7, 2, 5, 0), ("born_into", 0)]), [0])
        self.assertEqual(last_reply([("start", 7, 2, 5, 1), ("born_into", 0)]), [-33])


class Fathers(unittest.TestCase):
    def test_first_has_none_with_sons_and_without(self):
        self.assertEqual(last_reply([("start", 7, 2, 5, 12), ("fathers", 0)]), [-33])
        self.assertEqual(last_reply(FAMILY + [("fathers", 0)]), [-33])

    def test_youngest_and_oldest(self):
        calls = [("start", 7, 2, 5, 12), ("son", 0, 1), ("son", 0, 2000), ("son", 1, 2)]
        told = replies(calls + [("fathers", 1), ("fathers", 2), ("fathers", 3)])
        self.assertEqual(told[-3:], [[1], [2000], [1]])

    def test_sets_behind_make_no_difference(self):
        self.assertEqual(last_reply(FAMILY + [("behind", 8), ("fathers", 3)]), [20])


class Line(unittest.TestCase):
    def test_longest(self):
        line = [("start", 7, 2, 5, 12)] + [("son", man, man + 1) for man in range(23)]
        told = replies(line + [("line", 23), ("line", 22), ("drift", 23), ("line", 24)])
        self.assertEqual(told[-4:], [[24, 16777215], [23, 8388607], [23, 0, 299], [-2]])

    def test_widest(self):
        sons = [("start", 7, 2, 5, 12)] + [("son", 0, man + 1) for man in range(23)]
        self.assertEqual(last_reply(sons + [("line", 23)]), [2, 8388609])


class Sons(unittest.TestCase):
    def test_first_man_is_not_his_own_son(self):
        self.assertEqual(last_reply([("start", 7, 2, 5, 12), ("sons", 0)]), [0, 0])

    def test_grandsons_are_not_told(self):
        line = [("start", 7, 2, 5, 12)] + [("son", man, man + 1) for man in range(23)]
        told = behind_it(line, [("sons", man) for man in range(25)])
        self.assertEqual(told, [[1, 2 ** (man + 1)] for man in range(23)] + [[0, 0], [-2]])

    def test_most(self):
        sons = [("start", 7, 2, 5, 12)] + [("son", 0, man + 1) for man in range(23)]
        self.assertEqual(behind_it(sons, [("sons", 0), ("sons", 23)]), [[23, 16777214], [0, 0]])

    def test_dropped_son_is_not_told(self):
        told = behind_it(FAMILY, [("drop",), ("sons", 3), ("son", 0, 60), ("sons", 0), ("sons", 3)])
        self.assertEqual(told, [[4], [0, 0], [4, 1, 34], [3, 22], [0, 0]])


class Mean(unittest.TestCase):
    def test_first_has_none_with_sons_and_without(self):
        self.assertEqual(last_reply([("start", 7, 2, 5, 12), ("mean", 0)]), [-33])
        self.assertEqual(last_reply(FAMILY + [("mean", 0)]), [-33])

    def test_with_and_without_something_left(self):
        # The two fathers are 20 years old, then so many that the grandson is born in the year that's told.
        for year, told in [
            (40, [20, 0, 2]), (41, [20, 1, 2]), (42, [21, 0, 2]), (21, [10, 1, 2]), (2000, [1000, 0, 2]),
        ]:
            calls = [("start", 7, 2, 5, 12), ("son", 0, 20), ("son", 1, year), ("mean", 2)]
            with self.subTest(year=year):
                self.assertEqual(last_reply(calls), told)

    def test_long_lines(self):
        # Each father is a year old, but the last one: the longest line has 23 of them.
        line = [("start", 7, 2, 5, 12)] + [("son", man, man + 1) for man in range(22)]
        for year, told in [
            (23, [1, 0, 23]), (24, [1, 1, 23]), (45, [1, 22, 23]), (46, [2, 0, 23]), (47, [2, 1, 23]),
            (2000, [86, 22, 23]),
        ]:
            with self.subTest(year=year):
                self.assertEqual(last_reply(line + [("son", 22, year), ("mean", 23)]), told)

    def test_every_man_of_a_long_line(self):
        # The fathers are 1, 2, 3 .. years old: 1 + .. + n is n times half of n + 1.
        calls = [("start", 7, 2, 5, 12)]
        year = 0
        for man in range(23):
            year += man + 1
            calls.append(("son", man, year))
        told = behind_it(calls, [("mean", man) for man in range(24)])
        self.assertEqual(told[0], [-33])
        self.assertEqual(told[1:5], [[1, 0, 1], [1, 1, 2], [2, 0, 3], [2, 2, 4]])
        for fathers in range(1, 24):
            left = fathers // 2 if fathers % 2 == 0 else 0
            self.assertEqual(told[fathers], [(fathers + 1) // 2, left, fathers])

    def test_sets_behind_make_no_difference(self):
        self.assertEqual(last_reply(FAMILY + [("behind", 8), ("mean", 4)]), [14, 2, 3])


class Told(unittest.TestCase):
    def test_first_man(self):
        self.assertEqual(last_reply([("start", 7, 2, 5, 12), ("told", 0)]), [0, 0, 0])

    def test_ends(self):
        line = [("start", 7, 2, 5, 12)] + [("son", man, man + 1) for man in range(22)] + [("son", 22, 2000)]
        told = behind_it(line, [("told", 23), ("told", 22), ("told", 24)])
        self.assertEqual(told, [[2000, 22, 23], [22, 21, 22], [-2]])

    def test_another_of_the_same_number(self):
        self.assertEqual(last_reply(FAMILY + [("drop",), ("son", 2, 50), ("told", 4)]), [50, 2, 2])

    def test_sets_behind_make_no_difference(self):
        self.assertEqual(last_reply(FAMILY + [("behind", 8), ("told", 4)]), [44, 3, 3])


if __name__ == "__main__":
    unittest.main()
