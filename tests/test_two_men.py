"""fr_together, fr_elder (point 5)."""

import unittest

from tests.helper import FAMILY, LARGEST, behind_it, last_reply, replies


def each_pair(name):
    return behind_it(FAMILY, [(name, man, other) for man in range(5) for other in range(5)])


class Together(unittest.TestCase):
    def test_each_pair(self):
        rows = [
            1, 0, 0, 0, 0,
            0, 1, 1, 0, 0,
            0, 1, 1, 0, 0,
            0, 0, 0, 1, 0,
            0, 0, 0, 0, 1,
        ]
        self.assertEqual(each_pair("together"), [[row] for row in rows])

    def test_cousins(self):
        told = replies(FAMILY + [("son", 2, 90), ("together", 5, 3), ("together", 3, 5), ("together", 5, 4)])
        self.assertEqual(told[-3:], [[1], [1], [0]])

    def test_brothers_far_apart(self):
        told = replies([("start", 1, 1, 1, 0), ("son", 0, 1), ("son", 0, 2000), ("together", 1, 2)])
        self.assertEqual(told[-1], [1])

    def test_whatever_the_sets_behind(self):
        for sets in (1, 3, 8):
            told = behind_it(FAMILY, [("behind", sets), ("together", 1, 2), ("together", 1, 3), ("together", 0, 4)])
            self.assertEqual(told[1:], [[1], [0], [0]])


class Elder(unittest.TestCase):
    def test_each_pair(self):
        # Born in 0, 10, 45, 30, 44; their sets come in in 12, 26, 26, 40, 54.
        rows = [
            [0, 0, 1], [1, 1, 0], [1, 1, 0], [1, 1, 0], [1, 1, 0],
            [0, 0, 0], [0, 0, 1], [1, 0, 1], [1, 1, 0], [1, 1, 0],
            [0, 0, 0], [0, 0, 1], [0, 0, 1], [0, 1, 0], [0, 1, 0],
            [0, 0, 0], [0, 0, 0], [1, 0, 0], [0, 0, 1], [1, 1, 0],
            [0, 0, 0], [0, 0, 0], [1, 0, 0], [0, 0, 0], [0, 0, 1],
        ]
        self.assertEqual(each_pair("elder"), rows)

    def test_born_in_one_year(self):
        # Man 5 is an uncle of 3's, born when 3 was; man 6 is a brother of 5's, born when he was.
        told = replies(FAMILY + [("son", 0, 30), ("son", 0, 30), ("elder", 5, 3), ("elder", 3, 5), ("elder", 5, 6)])
        self.assertEqual(told[-3:], [[0, 1, 0], [0, 0, 0], [0, 0, 1]])

    def test_a_year_apart(self):
        told = replies(FAMILY + [("son", 0, 29), ("son", 0, 31)] + [("elder", 3, 5), ("elder", 5, 3), ("elder", 3, 6)])
        self.assertEqual(told[-3:], [[0, 0, 0], [1, 1, 0], [1, 0, 0]])

    def test_whatever_the_sets_behind(self):
        for sets in (1, 3, 8):
            told = behind_it(FAMILY, [("behind", sets), ("elder", 2, 3), ("elder", 3, 2), ("elder", 1, 2)])
            self.assertEqual(told[1:], [[0, 1, 0], [1, 0, 0], [1, 0, 1]])


class NotThere(unittest.TestCase):
    def test_either_or_both(self):
        for name in ("together", "elder"):
            for pair in [
                (5, 0), (0, 5), (5, 5), (4, 5), (5, 4), (24, 0), (0, 24),
                (LARGEST, 0), (0, LARGEST), (LARGEST, LARGEST),
            ]:
                with self.subTest(name=name, pair=pair):
                    self.assertEqual(last_reply(FAMILY + [(name,) + pair]), [-2])

    def test_dropped(self):
        for name in ("together", "elder"):
            told = behind_it(FAMILY, [("drop",), (name, 4, 0), (name, 0, 4), (name, 3, 3)])
            self.assertEqual(told[1:3], [[-2], [-2]])
            self.assertNotEqual(told[3], [-2])


if __name__ == "__main__":
    unittest.main()
