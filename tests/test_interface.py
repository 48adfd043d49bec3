"""fathersets.sets.answers: how calls are laid out, and what is left alone."""

import unittest

from fathersets.sets import answers
from tests.helper import FAMILY, LARGEST, parted, probes, replies, written

EVERY_CALL = [
    0, 7, 2, 5, 12,
    1, 0, 45,
    1, 0, 10,
    3, 3,
    4, 1,
    5, 1,
    6, 1, 40,
    7, 1,
    8, 1,
    9, 1,
    10, 1,
    11, 0, 30,
    2,
    12, 11,
    13, 12,
    14, 0,
    15, 0, 10, 20,
    16, 1,
    17, 0, 1,
    18, 0, 1,
    19, 2, 10, 20, 30, 40,
    20, 1,
    21,
    21,
    22,
    23,
]
EVERY_ANSWER = [
    1, 12,
    3, 1, 1, 19,
    3, 2, 0, 16,
    1, 2,
    2, 33, 3,
    3, 0, 1, 12,
    1, 1,
    1, 1,
    1, 45,
    3, 1, 1, 24,
    2, 2, 3,
    2, 2, 5,
    1, 2,
    2, 1, 1,
    2, 1, 2,
    2, 1, 2,
    2, 13, 23,
    3, 45, 0, 1,
    1, 0,
    3, 1, 1, 0,
    3, 2, 0, 24,
    3, 45, 0, 1,
    1, 3,
    1, 2,
    1, 1,
    7, 3, 7, 3, 5, 12, 3, 1,
]


class Layout(unittest.TestCase):
    def test_every_call_by_its_number(self):
        self.assertEqual(answers(EVERY_CALL), EVERY_ANSWER)

    def test_refusal_is_its_number_alone(self):
        calls = [0, 7, 2, 5, 101, 0, 7, 2, 5, 12]
        calls += [1, 9, 9, 2, 3, 2, 4, 9, 5, 9, 6, 9, 9, 7, 0, 8, 0, 9, 9, 10, 9, 11, 1, 0]
        told = [1, -22, 1, 12]
        for refusal in (-2, -6, -17, -2, -2, -2, -33, -33, -2, -2, -22):
            told += [1, refusal]
        self.assertEqual(answers(calls), told)

    def test_refusal_of_the_other_calls(self):
        calls = [0, 7, 2, 5, 12]
        told = [1, 12]
        for call, refusal in [
            ([12, 2001], -22), ([13, 2001], -22), ([14, 9], -2), ([15, 9, 1, 0], -2), ([15, 0, 1, 0], -22),
            ([15, 0, 2000, 2000], -33), ([16, 9], -2), ([16, 0], -33), ([17, 0, 9], -2), ([18, 9, 0], -2),
            ([19, 5, 1, 1, 1, 1], -22), ([20, 9], -2), ([21], -2), ([22], -2),
        ]:
            calls += call
            told += [1, refusal]
        self.assertEqual(answers(calls + [23]), told + [7, 1, 7, 2, 5, 12, 0, 0])

    def test_how_many_numbers_each_call_answers(self):
        counts = [1, 3, 3, 1, 2, 3, 1, 1, 1, 3, 2, 2, 1, 2, 2, 2, 2, 3, 1, 3, 3, 3, 1, 1, 1, 7]
        self.assertEqual([len(part) for part in parted(answers(EVERY_CALL))], counts)

    def test_whole_numbers_and_never_truths(self):
        told = answers(EVERY_CALL + written(FAMILY + probes() + [("back",), ("again",), ("state",)]))
        self.assertIs(type(told), list)
        self.assertEqual({type(number) for number in told}, {int})

    def test_nothing_but_a_refusal_is_below_0(self):
        for part in parted(answers(written(FAMILY + probes()))):
            if min(part) < 0:
                self.assertEqual(len(part), 1)
                self.assertIn(part[0], (-2, -6, -17, -22, -28, -33))

    def test_a_thousand_calls(self):
        calls = FAMILY + [("drift", man % 6) for man in range(995)]
        told = replies(calls)
        self.assertEqual(len(told), 1000)
        self.assertEqual(told[5:11] * 165, told[5:995])
        self.assertEqual(told[5:11], [[0, 0, 0], [1, 0, 4], [1, 1, 31], [2, 1, 2], [3, 1, 2], [-2]])

    def test_a_thousand_changes(self):
        told = replies(FAMILY[:1] + [("son", 0, 9), ("drop",), ("behind", 3), ("behind", 2)] * 249 + [("state",)])
        self.assertEqual(told[1:-4], [[1, 0, 17], [1], [2], [3]] * 248 + [[1, 0, 17]])
        self.assertEqual(told[-1], [1, 7, 2, 5, 12, 20, 0])

    def test_a_thousand_steps_back_and_again(self):
        told = replies(FAMILY + [("back",), ("again",)] * 497 + [("state",)])
        self.assertEqual(told[5:], [[3], [0]] * 497 + [[5, 7, 2, 5, 12, 4, 0]])

    def test_six_thousand_numbers(self):
        # 998 calls of six numbers each, ahead of them a start, behind them one that asks.
        calls = written(FAMILY[:1] + [("balance", 4, 100, 100, 100, 100)] * 998 + [("state",)])
        self.assertEqual(len(calls), 5994)
        self.assertEqual(answers(calls), [1, 12] + [3, 4, 1, 332] * 998 + [7, 1, 7, 2, 5, 12, 0, 0])

    def test_largest_arguments_of_every_call(self):
        big = LARGEST
        calls = [("start", big, big, big, big)] + FAMILY + [
            ("son", big, big), ("son", 0, big), ("behind", big), ("enters", big), ("age", big),
            ("grade", big, big), ("grade", 0, big), ("born_into", big), ("fathers", big),
            ("drift", big), ("line", big), ("in_step", big, big), ("in_step", 0, big), ("in_step", big, 0),
            ("too_old", big), ("too_young", big), ("sons", big), ("window", big, big, big), ("window", 0, 0, big),
            ("window", 0, big, 0), ("mean", big), ("together", big, 0), ("together", 0, big), ("elder", big, 0),
            ("elder", 0, big), ("balance", big, 0, 0, 0, 0), ("balance", 0, big, 0, 0, 0), ("told", big), ("state",),
        ]
        told = replies(calls)
        self.assertEqual(told[0], [-22])
        self.assertEqual(
            told[6:],
            [[-2], [-22], [-22], [-2], [-2], [-2], [-22], [-2], [-2], [-2], [-2], [-22], [-22], [-22]]
            + [[-22], [-22], [-2], [-2], [-22], [-22], [-2], [-2], [-2], [-2], [-2], [-22], [-22], [-2]]
            + [[5, 7, 2, 5, 12, 4, 0]],
        )


class Watched(list):
    """A list that can be read, but fails at whatever would change it."""

    def refuse(self, *ignored, **also_ignored):
        raise AssertionError("the list that was handed in was changed")

    append = extend = insert = pop = remove = clear = sort = reverse = refuse
    __setitem__ = __delitem__ = __iadd__ = __imul__ = refuse


class LeftAlone(unittest.TestCase):
    def test_list_is_as_it_was(self):
        calls = list(EVERY_CALL)
        answers(calls)
        self.assertEqual(calls, EVERY_CALL)

    def test_not_changed_for_a_while_either(self):
        self.assertEqual(answers(Watched(EVERY_CALL)), EVERY_ANSWER)

    def test_twice_alike(self):
        calls = list(EVERY_CALL)
        self.assertEqual(answers(calls), answers(calls))

    def test_nothing_kept_from_one_time_to_the_next(self):
        fresh = answers([0, 3, 4, 2, 9, 4, 0, 4, 1, 2])
        answers(written(FAMILY + [("behind", 7)]))
        self.assertEqual(answers([0, 3, 4, 2, 9, 4, 0, 4, 1, 2]), fresh)
        self.assertEqual(answers([0, 3, 4, 2, 9, 23, 21, 22]), [1, 9, 7, 1, 3, 4, 2, 9, 0, 0, 1, -2, 1, -2])
        self.assertEqual(fresh, [1, 9, 2, 9, 0, 1, -2, 1, -6])

    def test_what_is_given_back_is_new_each_time(self):
        first = answers(EVERY_CALL)
        first.clear()
        self.assertEqual(answers(EVERY_CALL), EVERY_ANSWER)


if __name__ == "__main__":
    unittest.main()
