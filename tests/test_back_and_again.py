"""fr_back, fr_again, fr_state (point 6), and which changes are kept (point 1)."""

import unittest

from tests.helper import FAMILY, LARGEST, behind_it, last_reply, probes, replies, trail

START = ("start", 7, 2, 5, 12)
BACK = ("back",)
AGAIN = ("again",)
STATE = ("state",)
DROP = ("drop",)

# One call for each reason for which a call is refused, told behind FAMILY.
REFUSED = [
    ("son", 5, 90), ("son", 1, 10), ("son", 0, 2001), ("behind", 0), ("behind", 9), ("behind", 2),
    ("enters", 5), ("age", 5), ("grade", 5, 0), ("grade", 0, 20001), ("grade", 0, 0), ("born_into", 5),
    ("born_into", 0),
    ("fathers", 5), ("fathers", 0), ("drift", 5), ("line", 5), ("in_step", 1, 0), ("in_step", 0, 2001),
    ("too_old", 2001), ("too_young", 2001), ("sons", 5), ("window", 5, 0, 0), ("window", 0, 1, 0),
    ("window", 0, 0, 2001),
    ("window", 2, 0, 0), ("mean", 5), ("mean", 0), ("together", 0, 5), ("together", 5, 0), ("elder", 0, 5),
    ("elder", 5, 0),
    ("balance", 5, 0, 0, 0, 0), ("balance", 0, 0, 0, 0, 101), ("told", 5), ("start", 0, 2, 5, 12),
    ("start", 7, 2, 5, 101),
]
# One call of each kind that is answered and changes nothing.
ANSWERED = [
    ("enters", 1), ("age", 1), ("grade", 1, 30), ("born_into", 2), ("fathers", 1), ("drift", 1), ("line", 1),
    ("in_step", 0, 9), ("too_old", 9), ("too_young", 9), ("sons", 0), ("window", 0, 0, 9), ("mean", 1),
    ("together", 0, 1), ("elder", 0, 1), ("balance", 1, 2, 3, 4, 5), ("told", 1), ("state",),
]


def moved(count):
    """So many changes, each of which leaves another number of sets behind: 3, 4, 3, 4 .."""
    return [("behind", 3 + place % 2) for place in range(count)]


class NoneThere(unittest.TestCase):
    def test_behind_a_start(self):
        self.assertEqual(replies([START, BACK, AGAIN, STATE]), [[12], [-2], [-2], [1, 7, 2, 5, 12, 0, 0]])

    def test_nothing_to_do_again_behind_changes(self):
        self.assertEqual(behind_it(FAMILY, [AGAIN, STATE]), [[-2], [5, 7, 2, 5, 12, 4, 0]])

    def test_all_taken_back(self):
        told = behind_it(FAMILY, [BACK] * 5 + [STATE])
        self.assertEqual(told, [[3], [2], [1], [0], [-2], [1, 7, 2, 5, 12, 0, 4]])

    def test_all_done_again(self):
        told = behind_it(FAMILY, [BACK] * 4 + [AGAIN] * 5 + [STATE])
        self.assertEqual(told[4:], [[3], [2], [1], [0], [-2], [5, 7, 2, 5, 12, 4, 0]])

    def test_a_refusal_leaves_all_as_it_was(self):
        for ahead, call in [(FAMILY, AGAIN), (FAMILY + [BACK] * 4, BACK), ([START], BACK), ([START], AGAIN)]:
            for asked in (probes(), trail()):
                told = behind_it(ahead, [call] + asked)
                self.assertEqual(told[0], [-2])
                self.assertEqual(told[1:], behind_it(ahead, asked))


class EachChange(unittest.TestCase):
    def back_and_again(self, ahead, change):
        asked = probes()
        before = behind_it(ahead, asked)
        after = behind_it(ahead + [change], asked)
        self.assertNotEqual(before, after)
        self.assertEqual(behind_it(ahead + [change, BACK], asked), before)
        self.assertEqual(behind_it(ahead + [change, BACK, AGAIN], asked), after)
        self.assertEqual(behind_it(ahead + [change, BACK, AGAIN, BACK], asked), before)
        self.assertEqual(behind_it(ahead + [change, BACK, AGAIN, BACK, AGAIN], asked), after)
        self.assertEqual(behind_it(ahead + [change, BACK, AGAIN], trail()), behind_it(ahead + [change], trail()))

    def test_son(self):
        self.back_and_again(FAMILY, ("son", 2, 77))
        self.back_and_again([START], ("son", 0, 77))

    def test_drop(self):
        self.back_and_again(FAMILY, DROP)
        self.back_and_again([START, ("son", 0, 9)], DROP)

    def test_behind(self):
        self.back_and_again(FAMILY, ("behind", 5))
        self.back_and_again([START], ("behind", 5))

    def test_last_of_twenty_four(self):
        full = [START] + [("son", man // 2, man + 1) for man in range(22)]
        self.back_and_again(full, ("son", 0, 9))
        told = behind_it(full, [("son", 0, 9), ("son", 0, 9), BACK, ("son", 0, 8), ("son", 0, 9)])
        self.assertEqual(told, [[23, 0, 17], [-28], [19], [23, 0, 18], [-28]])

    def test_a_man_taken_back_is_not_there(self):
        told = behind_it(FAMILY, [BACK, ("told", 4), ("told", 3), ("son", 4, 60), AGAIN, ("told", 4)])
        self.assertEqual(told, [[3], [-2], [30, 1, 2], [-2], [0], [44, 3, 3]])

    def test_a_drop_taken_back_gives_the_same_man(self):
        told = behind_it(FAMILY, [DROP, DROP, BACK, ("told", 3), ("told", 4), BACK, ("told", 4), ("state",)])
        self.assertEqual(told, [[4], [3], [5], [30, 1, 2], [-2], [4], [44, 3, 3], [5, 7, 2, 5, 12, 4, 2]])

    def test_all_three_one_behind_another(self):
        told = behind_it(FAMILY, [
            ("behind", 3), DROP, ("son", 2, 60), ("told", 4), ("enters", 4),
            BACK, ("told", 4), BACK, ("enters", 4), BACK, ("enters", 4),
            AGAIN, ("enters", 4), AGAIN, ("told", 4), AGAIN, ("told", 4), ("enters", 4), STATE,
        ])
        self.assertEqual(told, [
            [2], [4], [4, 1, 6], [60, 2, 2], [54, 6],
            [6], [-2], [5], [75, 9], [4], [54, 6],
            [2], [75, 9], [1], [-2], [0], [60, 2, 2], [54, 6], [5, 7, 3, 5, 12, 7, 0],
        ])

    def test_a_change_to_what_it_was_is_one_more(self):
        told = behind_it([START], [("behind", 3), ("behind", 2), BACK, STATE, BACK, STATE, ("behind", 2)])
        self.assertEqual(told, [[2], [3], [1], [1, 7, 3, 5, 12, 1, 1], [0], [1, 7, 2, 5, 12, 0, 2], [-17]])

    def test_it_is_that_already_when_taken_back(self):
        told = behind_it([START], [("behind", 3), BACK, ("behind", 2), AGAIN, ("behind", 3), BACK, ("behind", 3)])
        self.assertEqual(told, [[2], [0], [-17], [0], [-17], [0], [2]])

    def test_first_alone_again(self):
        told = behind_it([START], [("son", 0, 9), BACK, DROP, AGAIN, DROP, BACK, DROP])
        self.assertEqual(told, [[1, 0, 17], [0], [-6], [0], [1], [1], [1]])


class Twenty(unittest.TestCase):
    def test_so_many_can_be_taken_back(self):
        for count in (0, 1, 2, 19, 20, 21, 22, 39, 40, 41, 200):
            kept = min(count, 20)
            with self.subTest(count=count):
                told = behind_it([START] + moved(count), [STATE] + [BACK] * 21)
                self.assertEqual(told[0][5:], [kept, 0])
                self.assertEqual(told[1:1 + kept], [[left] for left in reversed(range(kept))])
                self.assertEqual(told[1 + kept:], [[-2]] * (21 - kept))

    def test_so_many_can_be_done_again(self):
        for count in (1, 20, 21, 25, 200):
            kept = min(count, 20)
            with self.subTest(count=count):
                told = behind_it([START] + moved(count) + [BACK] * 20, [STATE] + [AGAIN] * 21 + [STATE])
                self.assertEqual(told[0][5:], [0, kept])
                self.assertEqual(told[1:1 + kept], [[left] for left in reversed(range(kept))])
                self.assertEqual(told[1 + kept:-1], [[-2]] * (21 - kept))
                self.assertEqual(told[-1][5:], [kept, 0])

    def test_those_before_stay_made(self):
        sons = [START] + [("son", 0, year) for year in range(1, 24)]
        # Of 23 changes the first three are kept for good.
        told = behind_it(sons + [BACK] * 20, [BACK, STATE, ("told", 3), ("told", 4)])
        self.assertEqual(told, [[-2], [4, 7, 2, 5, 12, 0, 20], [3, 0, 1], [-2]])
        told = behind_it(sons + [BACK] * 20 + [AGAIN] * 20, [AGAIN, STATE, ("told", 23)])
        self.assertEqual(told, [[-2], [24, 7, 2, 5, 12, 20, 0], [23, 0, 1]])

    def test_the_twenty_first_lets_the_first_go(self):
        changes = [("son", 0, 9)] + moved(20)
        told = behind_it([START] + changes[:20], [BACK] * 20 + [STATE])
        self.assertEqual(told[-1], [1, 7, 2, 5, 12, 0, 20])
        told = behind_it([START] + changes, [BACK] * 20 + [STATE, BACK, STATE])
        self.assertEqual(told[-3:], [[2, 7, 2, 5, 12, 0, 20], [-2], [2, 7, 2, 5, 12, 0, 20]])

    def test_back_and_again_at_twenty(self):
        ahead = [START] + moved(25)
        asked = trail(men=2)
        self.assertEqual(behind_it(ahead + [BACK, AGAIN] * 30, asked), behind_it(ahead, asked))
        self.assertEqual(behind_it(ahead + ([BACK] * 20 + [AGAIN] * 20) * 3, asked), behind_it(ahead, asked))

    def test_room_again_behind_one_taken_back(self):
        asked = [BACK, ("behind", 8), STATE, ("behind", 7), STATE] + [BACK] * 20 + [STATE]
        told = behind_it([START] + moved(20), asked)
        self.assertEqual(told[0], [19])
        self.assertEqual(told[2], [1, 7, 8, 5, 12, 20, 0])
        self.assertEqual(told[4], [1, 7, 7, 5, 12, 20, 0])
        # The first change, to 3 sets behind, is the one that was let go.
        self.assertEqual(told[-2:], [[0], [1, 7, 3, 5, 12, 0, 20]])


class AnotherChange(unittest.TestCase):
    def test_nothing_can_be_done_again_behind_it(self):
        for change in (("son", 0, 70), DROP, ("behind", 6)):
            with self.subTest(change=change):
                told = behind_it(FAMILY + [BACK] * 2, [STATE, change, STATE, AGAIN])
                self.assertEqual(told[0][5:], [2, 2])
                self.assertEqual(told[2][5:], [3, 0])
                self.assertEqual(told[3], [-2])

    def test_it_is_taken_back_itself(self):
        asked = probes()
        for change in (("son", 0, 70), DROP, ("behind", 6)):
            ahead = FAMILY + [BACK] * 2
            with self.subTest(change=change):
                self.assertEqual(behind_it(ahead + [change, BACK], asked), behind_it(ahead, asked))
                self.assertEqual(behind_it(ahead + [change, BACK, AGAIN], asked), behind_it(ahead + [change], asked))
                self.assertEqual(last_reply(ahead + [change, BACK, STATE])[5:], [2, 1])

    def test_the_same_change_counts_as_another(self):
        told = behind_it(FAMILY + [BACK] * 2, [("son", 1, 30), STATE, AGAIN])
        self.assertEqual(told, [[3, 0, 10], [4, 7, 2, 5, 12, 3, 0], [-2]])

    def test_some_done_again_ahead_of_it(self):
        told = behind_it(FAMILY + [BACK] * 3, [AGAIN, STATE, ("behind", 4), STATE, BACK, STATE, BACK, STATE])
        self.assertEqual(told, [
            [2], [3, 7, 2, 5, 12, 2, 2], [2], [3, 7, 4, 5, 12, 3, 0],
            [2], [3, 7, 2, 5, 12, 2, 1], [1], [2, 7, 2, 5, 12, 1, 2],
        ])


class BetweenThem(unittest.TestCase):
    def test_a_refused_call(self):
        # All are refused behind FAMILY, whatever was done since and taken back.
        ahead = FAMILY + [("son", 0, 99), ("behind", 3), BACK, BACK]
        asked = trail()
        plain = behind_it(ahead, asked)
        for call in REFUSED:
            with self.subTest(call=call):
                told = behind_it(ahead, [call] + asked)
                self.assertLess(told[0][0], 0)
                self.assertEqual(len(told[0]), 1)
                self.assertEqual(told[1:], plain)

    def test_a_refused_drop_and_one_man_too_many(self):
        full = [START] + [("son", 0, year) for year in range(1, 24)] + [("behind", 3), BACK]
        for ahead, call, refusal in [
            ([START, ("son", 0, 9), BACK], DROP, [-6]), (full, ("son", 0, 50), [-28]),
        ]:
            told = behind_it(ahead, [call] + trail())
            self.assertEqual(told[0], refusal)
            self.assertEqual(told[1:], behind_it(ahead, trail()))

    def test_a_call_that_only_asks(self):
        ahead = FAMILY + [("son", 0, 99), ("behind", 3), BACK, BACK]
        asked = trail()
        plain = behind_it(ahead, asked)
        for call in ANSWERED:
            with self.subTest(call=call):
                told = behind_it(ahead, [call] + asked)
                self.assertGreaterEqual(told[0][0], 0)
                self.assertEqual(told[1:], plain)

    def test_a_start_that_is_answered(self):
        new = ("start", 3, 4, 2, 9)
        for ahead in (FAMILY, FAMILY + [BACK] * 2, FAMILY + [BACK] * 4, [START] + moved(30)):
            told = behind_it(ahead, [new, STATE, BACK, AGAIN, STATE])
            self.assertEqual(told, [[9], [1, 3, 4, 2, 9, 0, 0], [-2], [-2], [1, 3, 4, 2, 9, 0, 0]])

    def test_the_same_start_again(self):
        told = behind_it(FAMILY + [BACK], [START, STATE, BACK, AGAIN])
        self.assertEqual(told, [[12], [1, 7, 2, 5, 12, 0, 0], [-2], [-2]])

    def test_changes_behind_another_start(self):
        told = behind_it(FAMILY, [("start", 3, 4, 2, 9), ("son", 0, 5), BACK, STATE, BACK, AGAIN, STATE, ("told", 1)])
        self.assertEqual(told[3:], [[1, 3, 4, 2, 9, 0, 1], [-2], [0], [2, 3, 4, 2, 9, 1, 0], [5, 0, 1]])

    def test_a_start_that_is_refused(self):
        for ahead in (FAMILY, FAMILY + [BACK] * 2, FAMILY + [BACK] * 4):
            for start in [(0, 4, 2, 9), (3, 9, 2, 9), (3, 4, 13, 9), (3, 4, 2, 101), (LARGEST,) * 4]:
                told = behind_it(ahead, [("start",) + start] + trail())
                self.assertEqual(told[0], [-22])
                self.assertEqual(told[1:], behind_it(ahead, trail()))


class State(unittest.TestCase):
    def test_behind_a_start(self):
        for start in [(1, 1, 1, 0), (20, 8, 12, 100), (7, 2, 5, 12), (2, 7, 12, 5)]:
            self.assertEqual(last_reply([("start",) + start, STATE]), [1] + list(start) + [0, 0])

    def test_behind_each_change(self):
        told = behind_it([START], [("son", 0, 9), STATE, ("behind", 4), STATE, DROP, STATE, ("behind", 2), STATE])
        self.assertEqual(told[1::2], [
            [2, 7, 2, 5, 12, 1, 0], [2, 7, 4, 5, 12, 2, 0], [1, 7, 4, 5, 12, 3, 0], [1, 7, 2, 5, 12, 4, 0],
        ])

    def test_behind_back_and_again(self):
        ahead = [START, ("son", 0, 9), ("behind", 4), DROP]
        told = behind_it(ahead, [BACK, STATE, BACK, STATE, BACK, STATE, AGAIN, STATE, AGAIN, STATE, AGAIN, STATE])
        self.assertEqual(told, [
            [2], [2, 7, 4, 5, 12, 2, 1], [1], [2, 7, 2, 5, 12, 1, 2], [0], [1, 7, 2, 5, 12, 0, 3],
            [2], [2, 7, 2, 5, 12, 1, 2], [1], [2, 7, 4, 5, 12, 2, 1], [0], [1, 7, 4, 5, 12, 3, 0],
        ])

    def test_both_kinds_of_start(self):
        ahead = FAMILY + [("behind", 6), BACK, BACK]
        told = behind_it(ahead, [STATE, ("start", 0, 1, 1, 1), STATE, ("start", 2, 3, 4, 5), STATE])
        self.assertEqual(told, [[4, 7, 2, 5, 12, 3, 2], [-22], [4, 7, 2, 5, 12, 3, 2], [5], [1, 2, 3, 4, 5, 0, 0]])

    def test_most_men(self):
        full = [START] + [("son", 0, year) for year in range(1, 24)]
        self.assertEqual(last_reply(full + [STATE]), [24, 7, 2, 5, 12, 20, 0])

    def test_asked_twice(self):
        told = behind_it(FAMILY, [STATE, STATE])
        self.assertEqual(told[0], told[1])


if __name__ == "__main__":
    unittest.main()
