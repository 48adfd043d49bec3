"""fr_son, fr_drop, fr_behind (point 2)."""

import unittest

from tests.helper import BY_MAN_ALONE, FAMILY, LARGEST, behind_it, last_reply, probes, replies, trail

START = ("start", 7, 2, 5, 12)
FULL = [START] + [("son", 0, year) for year in range(1, 24)]


class RefusedLeavesAll(unittest.TestCase):
    def refuse(self, ahead, call, refusal):
        for asked in (probes(), trail()):
            told = behind_it(ahead, [call] + asked)
            self.assertEqual(told[0], [refusal])
            self.assertEqual(told[1:], behind_it(ahead, asked))

    def test_son(self):
        self.refuse(FAMILY, ("son", 5, 90), -2)
        self.refuse(FAMILY, ("son", 1, 10), -22)
        self.refuse(FAMILY, ("son", 1, 2001), -22)
        self.refuse(FULL, ("son", 0, 50), -28)

    def test_drop(self):
        self.refuse([START], ("drop",), -6)

    def test_behind(self):
        for sets in (0, 9, LARGEST):
            self.refuse(FAMILY, ("behind", sets), -22)
        self.refuse(FAMILY, ("behind", 2), -17)


class Son(unittest.TestCase):
    def test_number_and_age(self):
        self.assertEqual(replies(FAMILY), [[12], [1, 0, 16], [2, 1, 19], [3, 0, 10], [4, 0, 10]])

    def test_age_from_above_0_to_below(self):
        # His set comes in in year 26.
        for year, told in [(25, [1, 0, 1]), (26, [1, 0, 0]), (27, [1, 1, 1]), (2000, [1, 1, 1974])]:
            with self.subTest(year=year):
                self.assertEqual(last_reply([START, ("son", 0, year)]), told)

    def test_father_who_is_not_there(self):
        for father in (1, 2, 23, 24, LARGEST):
            self.assertEqual(last_reply([START, ("son", father, 20)]), [-2])
        self.assertEqual(last_reply(FAMILY + [("son", 4, 60)]), [5, 0, 8])
        self.assertEqual(last_reply(FAMILY + [("son", 5, 60)]), [-2])

    def test_dropped_father_is_not_there(self):
        self.assertEqual(last_reply(FAMILY + [("drop",), ("son", 4, 60)]), [-2])

    def test_latest_year(self):
        self.assertEqual(last_reply([START, ("son", 0, 2000)]), [1, 1, 1974])
        self.assertEqual(last_reply([START, ("son", 0, 2001)]), [-22])
        self.assertEqual(last_reply([START, ("son", 0, LARGEST)]), [-22])

    def test_later_than_the_father(self):
        self.assertEqual(last_reply([START, ("son", 0, 0)]), [-22])
        self.assertEqual(last_reply([START, ("son", 0, 1)]), [1, 0, 25])
        self.assertEqual(last_reply(FAMILY + [("son", 2, 44)]), [-22])
        self.assertEqual(last_reply(FAMILY + [("son", 2, 45)]), [-22])
        self.assertEqual(last_reply(FAMILY + [("son", 2, 46)]), [5, 1, 6])

    def test_born_in_the_latest_year_has_no_son(self):
        for year in (1, 2000, 2001):
            self.assertEqual(last_reply([START, ("son", 0, 2000), ("son", 1, year)]), [-22])

    def test_twenty_four_men(self):
        told = replies(FULL + [("son", 0, 24)])
        self.assertEqual(told[-2], [23, 0, 3])
        self.assertEqual(told[-1], [-28])

    def test_room_again_when_one_is_dropped(self):
        told = replies(FULL + [("drop",), ("son", 22, 24), ("son", 0, 24)])
        self.assertEqual(told[-3:], [[23], [23, 0, 16], [-28]])

    def test_which_refusal_comes_first(self):
        self.assertEqual(last_reply([START, ("son", 1, 0)]), [-2])
        self.assertEqual(last_reply([START, ("son", 1, 2001)]), [-2])
        self.assertEqual(last_reply([START, ("son", LARGEST, LARGEST)]), [-2])
        self.assertEqual(last_reply(FULL + [("son", 24, 50)]), [-2])
        self.assertEqual(last_reply(FULL + [("son", 24, 2001)]), [-2])
        self.assertEqual(last_reply(FULL + [("son", 23, 23)]), [-22])
        self.assertEqual(last_reply(FULL + [("son", 23, 2001)]), [-22])


class Drop(unittest.TestCase):
    def test_how_many_there_are(self):
        told = replies(FAMILY + [("drop",)] * 5)
        self.assertEqual(told[-5:], [[4], [3], [2], [1], [-6]])

    def test_the_one_told_last_is_not_there(self):
        for name in BY_MAN_ALONE:
            with self.subTest(name=name):
                told = replies(FAMILY + [("drop",), (name, 4), (name, 3)])
                self.assertEqual(told[-2], [-2])
                self.assertNotEqual(told[-1], [-2])

    def test_the_others_stay(self):
        asked = probes(men=5)
        self.assertEqual(
            replies(FAMILY + [("son", 2, 77), ("drop",)] + asked)[-len(asked):],
            replies(FAMILY + asked)[-len(asked):],
        )

    def test_his_number_is_given_again(self):
        told = replies(FAMILY + [("drop",), ("son", 2, 50), ("line", 4), ("fathers", 4)])
        self.assertEqual(told[-3:], [[4, 1, 10], [3, 21], [5]])


class Behind(unittest.TestCase):
    def test_answers_how_many_it_was(self):
        told = replies(FAMILY + [("behind", 3), ("behind", 8), ("behind", 1)])
        self.assertEqual(told[-3:], [[2], [3], [8]])

    def test_bounds(self):
        self.assertEqual(last_reply([START, ("behind", 0)]), [-22])
        self.assertEqual(last_reply([START, ("behind", 1)]), [2])
        self.assertEqual(last_reply([START, ("behind", 8)]), [2])
        self.assertEqual(last_reply([START, ("behind", 9)]), [-22])
        self.assertEqual(last_reply([START, ("behind", LARGEST)]), [-22])

    def test_it_is_that_already(self):
        self.assertEqual(last_reply([START, ("behind", 2)]), [-17])
        told = replies([START, ("behind", 3), ("behind", 3), ("behind", 2)])
        self.assertEqual(told[1:], [[2], [-17], [3]])

    def test_all_men_are_moved(self):
        told = replies(FAMILY + [("behind", 3)] + [("enters", man) for man in range(5)])
        self.assertEqual(told[-5:], [[12, 0], [33, 3], [33, 3], [54, 6], [75, 9]])

    def test_later_sons_follow_it(self):
        self.assertEqual(last_reply(FAMILY + [("behind", 3), ("son", 4, 60)]), [5, 0, 36])


if __name__ == "__main__":
    unittest.main()
