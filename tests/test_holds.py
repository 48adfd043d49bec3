"""What holds of whatever men there are: checked on many families, drawn alike each time."""

import random
import unittest

from tests.helper import replies


def value(sign_and_size):
    return -sign_and_size[1] if sign_and_size[0] == 1 else sign_and_size[1]


class Family:
    """Men told by plain rows, and the calls that tell them to the program."""

    def __init__(self, draw):
        self.term = draw.randint(1, 20)
        self.behind = draw.randint(1, 8)
        self.grades = draw.randint(1, 12)
        self.first = draw.randint(0, 100)
        self.father = [0]
        self.born = [0]
        self.calls = [("start", self.term, self.behind, self.grades, self.first)]
        for ignored in range(draw.randint(0, 23)):
            self.tell(draw)

    def tell(self, draw):
        father = draw.randrange(len(self.born))
        year = self.born[father] + draw.choice([1, self.term * self.behind, draw.randint(1, 90)])
        if year <= 2000:
            self.father.append(father)
            self.born.append(year)
            self.calls.append(("son", father, year))

    def men(self):
        return range(len(self.born))

    def asked(self, name):
        count = len(self.born)
        return replies(self.calls + [(name, man) for man in self.men()])[-count:]

    def ages(self):
        return [value(part[1:]) for part in self.asked("age")]


def families():
    draw = random.Random(20)
    return [Family(draw) for ignored in range(60)]


class Holds(unittest.TestCase):
    def test_from_father_to_son(self):
        for family in families():
            ages = family.ages()
            gap = family.term * family.behind
            self.assertEqual(ages[0], family.first)
            for man in list(family.men())[1:]:
                father = family.father[man]
                at_birth = family.born[man] - family.born[father]
                self.assertEqual(ages[man], ages[father] + gap - at_birth)
                self.assertEqual(family.asked("fathers")[man], [at_birth])

    def test_a_son_is_told_as_fr_age_tells_him(self):
        for family in families():
            told = replies(family.calls)
            ages = family.asked("age")
            for man in list(family.men())[1:]:
                self.assertEqual(told[man], [man] + ages[man][1:])

    def test_in_step_for_good(self):
        for family in families():
            drifts = family.asked("drift")
            gap = family.term * family.behind
            for man in family.men():
                fathers = drifts[man][0]
                # The fathers' ages on a line together are the year in which its last man is born.
                self.assertEqual(value(drifts[man][1:]) == 0, family.born[man] == fathers * gap)

    def test_brothers_together_and_never_a_son(self):
        for family in families():
            sets = [part[1] for part in family.asked("enters")]
            years = [part[0] for part in family.asked("enters")]
            for man in list(family.men())[1:]:
                father = family.father[man]
                self.assertEqual(sets[man], sets[father] + family.behind)
                self.assertEqual(years[man], years[father] + family.term * family.behind)

    def test_line_is_the_fathers_and_himself(self):
        for family in families():
            lines = family.asked("line")
            self.assertEqual(lines[0], [1, 1])
            for man in list(family.men())[1:]:
                above = lines[family.father[man]]
                self.assertEqual(lines[man], [above[0] + 1, above[1] + 2 ** man])

    def test_born_into_a_grade(self):
        for family in families():
            entered = family.asked("enters")
            told = family.asked("born_into")
            for man in family.men():
                since = family.born[man] - entered[man][0]
                if 0 <= since < family.term * family.grades:
                    self.assertEqual(told[man], [since // family.term])
                else:
                    self.assertEqual(told[man], [-33])

    def test_in_step_is_who_is_neither_older_nor_younger(self):
        for family in families():
            ages = family.ages()
            bounds = [(0, 0), (0, 2000), (15, 30), (family.first, family.first)]
            told = replies(family.calls + [("in_step",) + pair for pair in bounds])[-len(bounds):]
            for pair, part in zip(bounds, told):
                men = [man for man in family.men() if not ages[man] < pair[0] and not ages[man] > pair[1]]
                self.assertEqual(part, [len(men), sum(2 ** man for man in men)])

    def test_more_sets_behind(self):
        for family in families():
            if family.behind == 8:
                continue
            before = family.asked("enters")
            above = [part[0] for part in family.asked("drift")]
            family.calls.append(("behind", family.behind + 1))
            after = family.asked("enters")
            for man in family.men():
                self.assertEqual(after[man][0], before[man][0] + above[man] * family.term)
                self.assertEqual(after[man][1], before[man][1] + above[man])


if __name__ == "__main__":
    unittest.main()
