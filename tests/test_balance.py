"""fr_balance (point 4)."""

import itertools
import unittest

from tests.helper import FAMILY, LARGEST, behind_it, last_reply

START = ("start", 7, 2, 5, 12)


def balance(*given):
    return last_reply([START, ("balance",) + given])


class Balance(unittest.TestCase):
    # The first man is 12, and the gap is 14 years.

    def test_from_no_father_to_four(self):
        self.assertEqual(balance(0, 10, 20, 14, 100), [0, 0, 12])
        self.assertEqual(balance(1, 10, 20, 14, 100), [1, 0, 16])
        self.assertEqual(balance(2, 10, 20, 14, 100), [2, 0, 10])
        self.assertEqual(balance(3, 10, 20, 14, 100), [3, 0, 10])
        self.assertEqual(balance(4, 10, 20, 14, 100), [4, 1, 76])

    def test_around_0(self):
        self.assertEqual(balance(1, 25, 0, 0, 0), [1, 0, 1])
        self.assertEqual(balance(1, 26, 0, 0, 0), [1, 0, 0])
        self.assertEqual(balance(1, 27, 0, 0, 0), [1, 1, 1])
        self.assertEqual(balance(4, 17, 17, 17, 16), [4, 0, 1])
        self.assertEqual(balance(4, 17, 17, 17, 17), [4, 0, 0])
        self.assertEqual(balance(4, 17, 17, 17, 18), [4, 1, 1])

    def test_below_0_and_above_again(self):
        told = [balance(n, 40, 40, 0, 0)[1:] for n in range(5)]
        self.assertEqual(told, [[0, 12], [1, 14], [1, 40], [1, 26], [1, 12]])

    def test_as_many_as_the_gap(self):
        for n in range(5):
            self.assertEqual(balance(n, 14, 14, 14, 14), [n, 0, 12])

    def test_fathers_of_age_0(self):
        self.assertEqual([balance(n, 0, 0, 0, 0) for n in range(5)], [[n, 0, 12 + 14 * n] for n in range(5)])

    def test_what_stands_behind_the_first_n_is_not_reckoned(self):
        for n in range(5):
            first = [30, 20, 10, 40][:n]
            told = balance(n, *(first + [0] * (4 - n)))
            for others in itertools.product((0, 1, 50, 100), repeat=4 - n):
                self.assertEqual(balance(n, *(first + list(others))), told)

    def test_each_of_the_first_n_is_reckoned(self):
        for n in range(1, 5):
            for place in range(n):
                ages = [0, 0, 0, 0]
                ages[place] = 3
                self.assertEqual(balance(n, *ages), [n, 0, 12 + 14 * n - 3])

    def test_highest_and_lowest(self):
        self.assertEqual(last_reply([("start", 20, 8, 12, 100), ("balance", 4, 0, 0, 0, 0)]), [4, 0, 740])
        self.assertEqual(last_reply([("start", 1, 1, 1, 0), ("balance", 4, 100, 100, 100, 100)]), [4, 1, 396])
        self.assertEqual(last_reply([("start", 1, 1, 1, 0), ("balance", 0, 100, 100, 100, 100)]), [0, 0, 0])

    def test_reckoned_alone(self):
        for n in range(5):
            self.assertEqual(last_reply(FAMILY + [("balance", n, 10, 20, 14, 100)]), balance(n, 10, 20, 14, 100))
        self.assertEqual(behind_it(FAMILY, [("balance", 4, 1, 2, 3, 4), ("state",)])[-1], [5, 7, 2, 5, 12, 4, 0])

    def test_moves_with_the_sets_behind(self):
        told = behind_it([START], [("behind", 3), ("balance", 2, 10, 20, 0, 0), ("balance", 0, 10, 20, 0, 0)])
        self.assertEqual(told, [[2], [2, 0, 24], [0, 0, 12]])

    def test_men_so_told_come_in_as_old(self):
        told = behind_it(FAMILY, [("age", 4), ("balance", 3, 10, 20, 14, 0), ("age", 2), ("balance", 1, 45, 0, 0, 0)])
        self.assertEqual(told, [[0, 0, 10], [3, 0, 10], [0, 1, 19], [1, 1, 19]])


class Refused(unittest.TestCase):
    def test_more_than_four(self):
        self.assertEqual(balance(4, 1, 2, 3, 4), [4, 0, 58])
        for n in (5, 6, 100, LARGEST):
            self.assertEqual(balance(n, 1, 2, 3, 4), [-22])

    def test_each_of_the_four_is_looked_at_whatever_n_is(self):
        for n in range(6):
            for place in range(4):
                for age in (101, 102, LARGEST):
                    ages = [10, 10, 10, 10]
                    ages[place] = age
                    with self.subTest(n=n, ages=ages):
                        self.assertEqual(balance(n, *ages), [-22])

    def test_100_is_taken_in_each_place(self):
        for n in range(5):
            for place in range(4):
                ages = [10, 10, 10, 10]
                ages[place] = 100
                with self.subTest(n=n, ages=ages):
                    self.assertEqual(balance(n, *ages)[0], n)

    def test_all_too_large(self):
        self.assertEqual(balance(*([LARGEST] * 5)), [-22])


if __name__ == "__main__":
    unittest.main()
