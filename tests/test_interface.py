"""fathersets.sets.answers: how calls are laid out, and what is left alone."""

import unittest

from fathersets.sets import answers
from tests.helper import FAMILY, LARGEST, parted, probes, replies, written

EVERY_CALL = [
    0, 7, 2, 5, 12,
    1, 0, 45,
    1, 0, 10,
    3, 3,
    4, 1,
    5, 1,
    6, 1, 40,
    7, 1,
    8, 1,
    9, 1,
    10, 1,
    11, 0, 30,
    2,
]
EVERY_ANSWER = [
    1, 12,
    3, 1, 1, 19,
    3, 2, 0, 16,
    1, 2,
    2, 33, 3,
    3, 0, 1, 12,
    1, 1,
    1, 1,
    1, 45,
    3, 1, 1, 24,
    2, 2, 3,
    2, 2, 5,
    1, 2,
]


class Layout(unittest.TestCase):
    def test_every_call_by_its_number(self):
        self.assertEqual(answers(EVERY_CALL), EVERY_ANSWER)

    def test_refusal_is_its_number_alone(self):
        calls = [0, 7, 2, 5, 101, 0, 7, 2, 5, 12, 1, 9, 9, 2, 3, 2, 4, 9, 5, 9, 6, 9, 9, 7, 0, 8, 0, 9, 9, 10, 9, 11, 1, 0]
        told = [1, -22, 1, 12]
        for refusal in (-2, -6, -17, -2, -2, -2, -33, -33, -2, -2, -22):
            told += [1, refusal]
        self.assertEqual(answers(calls), told)

    def test_whole_numbers_and_never_truths(self):
        told = answers(EVERY_CALL + written(FAMILY + probes()))
        self.assertIs(type(told), list)
        self.assertEqual({type(number) for number in told}, {int})

    def test_nothing_but_a_refusal_is_below_0(self):
        for part in parted(answers(written(FAMILY + probes()))):
            if min(part) < 0:
                self.assertEqual(len(part), 1)
                self.assertIn(part[0], (-2, -6, -17, -22, -28, -33))

    def test_a_thousand_calls(self):
        calls = FAMILY + [("drift", man % 6) for man in range(995)]
        told = replies(calls)
        self.assertEqual(len(told), 1000)
        self.assertEqual(told[5:11] * 165, told[5:995])
        self.assertEqual(told[5:11], [[0, 0, 0], [1, 0, 4], [1, 1, 31], [2, 1, 2], [3, 1, 2], [-2]])

    def test_largest_arguments_of_every_call(self):
        big = LARGEST
        calls = [("start", big, big, big, big)] + FAMILY + [
            ("son", big, big), ("son", 0, big), ("behind", big), ("enters", big), ("age", big),
            ("grade", big, big), ("grade", 0, big), ("born_into", big), ("fathers", big),
            ("drift", big), ("line", big), ("in_step", big, big), ("in_step", 0, big), ("in_step", big, 0),
        ]
        told = replies(calls)
        self.assertEqual(told[0], [-22])
        self.assertEqual(
            told[6:],
            [[-2], [-22], [-22], [-2], [-2], [-2], [-22], [-2], [-2], [-2], [-2], [-22], [-22], [-22]],
        )


class Watched(list):
    """A list that can be read, but fails at whatever would change it."""

    def refuse(self, *ignored, **also_ignored):
        raise AssertionError("the list that was handed in was changed")

    append = extend = insert = pop = remove = clear = sort = reverse = refuse
    __setitem__ = __delitem__ = __iadd__ = __imul__ = refuse


class LeftAlone(unittest.TestCase):
    def test_list_is_as_it_was(self):
        calls = list(EVERY_CALL)
        answers(calls)
        self.assertEqual(calls, EVERY_CALL)

    def test_not_changed_for_a_while_either(self):
        self.assertEqual(answers(Watched(EVERY_CALL)), EVERY_ANSWER)

    def test_twice_alike(self):
        calls = list(EVERY_CALL)
        self.assertEqual(answers(calls), answers(calls))

    def test_nothing_kept_from_one_time_to_the_next(self):
        fresh = answers([0, 3, 4, 2, 9, 4, 0, 4, 1, 2])
        answers(written(FAMILY + [("behind", 7)]))
        self.assertEqual(answers([0, 3, 4, 2, 9, 4, 0, 4, 1, 2]), fresh)
        self.assertEqual(fresh, [1, 9, 2, 9, 0, 1, -2, 1, -6])

    def test_what_is_given_back_is_new_each_time(self):
        first = answers(EVERY_CALL)
        first.clear()
        self.assertEqual(answers(EVERY_CALL), EVERY_ANSWER)


if __name__ == "__main__":
    unittest.main()
