"""fr_start: its answer, its bounds, and what it begins anew (point 1)."""

import unittest

from tests.helper import FAMILY, LARGEST, behind_it, last_reply, probes, replies, trail


class Answer(unittest.TestCase):
    def test_answers_the_year_of_the_first_set(self):
        self.assertEqual(replies([("start", 7, 2, 5, 12)]), [[12]])

    def test_first_man_alone_born_in_year_0(self):
        asked = [("enters", 0), ("age", 0), ("drift", 0), ("line", 0), ("age", 1)]
        told = replies([("start", 7, 2, 5, 12)] + asked)
        self.assertEqual(told[1:], [[12, 0], [0, 0, 12], [0, 0, 0], [1, 1], [-2]])


class Bounds(unittest.TestCase):
    def test_both_ends_are_taken(self):
        for start in [
            (1, 1, 1, 0), (20, 8, 12, 100),
            (1, 8, 12, 100), (20, 1, 12, 100), (20, 8, 1, 100), (20, 8, 12, 0),
        ]:
            with self.subTest(start=start):
                self.assertEqual(replies([("start",) + start]), [[start[3]]])

    def test_beyond_an_end_is_refused(self):
        for start in [
            (0, 1, 1, 0), (21, 1, 1, 0),
            (1, 0, 1, 0), (1, 9, 1, 0),
            (1, 1, 0, 0), (1, 1, 13, 0),
            (1, 1, 1, 101),
            (0, 0, 0, 101),
        ]:
            with self.subTest(start=start):
                self.assertEqual(replies([("start",) + start]), [[-22]])

    def test_largest_arguments_are_refused(self):
        for place in range(4):
            start = [7, 2, 5, 12]
            start[place] = LARGEST
            with self.subTest(start=start):
                self.assertEqual(replies([("start",) + tuple(start)]), [[-22]])

    def test_refused_as_often_as_one_likes_ahead_of_the_first(self):
        told = replies([("start", 0, 2, 5, 12)] * 3 + [("start", 7, 2, 5, 12), ("age", 0)])
        self.assertEqual(told, [[-22], [-22], [-22], [12], [0, 0, 12]])

    def test_bounds_hold_what_they_say(self):
        # The ends are not only taken, they are reckoned with.
        told = replies([("start", 20, 8, 12, 100), ("son", 0, 1), ("grade", 0, 339), ("grade", 0, 340)])
        self.assertEqual(told, [[100], [1, 0, 259], [11], [-33]])
        told = replies([("start", 1, 1, 1, 0), ("son", 0, 1), ("grade", 0, 0), ("grade", 0, 1)])
        self.assertEqual(told, [[0], [1, 0, 0], [0], [-33]])


class Again(unittest.TestCase):
    def test_begins_anew(self):
        new = ("start", 3, 4, 2, 9)
        for asked in (probes(), trail()):
            for ahead in (FAMILY + [("behind", 5)], FAMILY + [("behind", 5), ("back",), ("back",)]):
                self.assertEqual(behind_it(ahead + [new], asked), behind_it([new], asked))

    def test_sons_are_numbered_from_1_again(self):
        told = replies(FAMILY + [("start", 3, 4, 2, 9), ("drop",), ("son", 0, 5)])
        self.assertEqual(told[-3:], [[9], [-6], [1, 0, 16]])

    def test_refused_leaves_all_as_it_was(self):
        ahead = FAMILY + [("behind", 5), ("back",), ("back",)]
        for start in [(0, 3, 3, 3), (21, 3, 3, 3), (3, 9, 3, 3), (3, 3, 13, 3), (3, 3, 3, 101), (LARGEST,) * 4]:
            with self.subTest(start=start):
                for asked in (probes(), trail()):
                    told = behind_it(ahead, [("start",) + start] + asked)
                    self.assertEqual(told[0], [-22])
                    self.assertEqual(told[1:], behind_it(ahead, asked))

    def test_refused_keeps_the_sets_behind_that_were_changed(self):
        calls = FAMILY + [("behind", 5), ("start", 0, 3, 3, 3), ("enters", 1)]
        self.assertEqual(last_reply(calls), [47, 5])


if __name__ == "__main__":
    unittest.main()
